import Derived.Test.YtbfghimjdlpicaaGreatDoorna6
import Derived.Test.YtbfghimjdlpicaaGreatDoorna7
import Derived.Test.YtbfghimjdlpicaaGreatDoorna8
import Derived.Test.YtbfghimjdlpicaaGreatDoorna9
set_option maxHeartbeats 6400000
set_option maxRecDepth 100000
open Go.Value renaming agg→Ik,string→Y,int→U,slice→J
open Go.IntKind renaming i64→O
open Go.RowKit.Below renaming refl→Ib
open Nat renaming le_refl→Ie,not_lt_zero→Jj,lt_succ_iff_lt_or_eq→I6,zero_le→IF
open Go.Ending renaming returned→AT
open Option renaming some→AI,none→be
open Go.Sort renaming grow→Ig
open Go renaming redrawn→Im,cell_regrown→Ih,wp_region_quiet_below→IA,plainElem→Qg
open ByteArray renaming empty→Ix
open Go.Maps renaming has→QU,size→JK
open Go.Proofs.Tryz renaming prog→AS,underlying166→JG,underlying3→IH
namespace Go.Proofs.YtbfghimjdlpicaaGreatDoor
namespace Wh
open Go.RowKit
theorem CA(a b:bT)(w:World) :
 ly 150 #[Ik #[Y a.node,U O a.x,U O a.y,U O a.z,U O a.h,U O a.s],Ik #[Y b.node,U O b.x,U O b.y,U O b.z,U O b.h,U O b.s]] w (U O (ord a b)):=by
 go_enter Tryz.func150,Tryz.ntmps150;go_wp2_with (go_at_call 70;refine(iq _ _ _).mono ?_;rintro e w' ⟨rfl,rfl⟩);go_ret;exact⟨rfl,((Ib _ _).alloc (Ie _) _).alloc (by simp) _⟩
theorem CB(ms:List bT)(b off cap:Nat)(w:World)(hr:Row w b off ms)(hb:b<w.heap.size)(hn:ms.length<=20) :
 aK 151 #[J (AI ⟨b,off,be⟩) ms.length cap,.func (.func 150) #[] #[]] w λe w'=>e=AT (.bool (aR ms))/\Below w.heap.size w w':=by
 have HR:Hid (Row w b off ms):=hr;clear hr;have H4:Hid (∀k,k+1<ms.length->0<=ord (ms.getD k dm) (ms.getD (k+1) dm)->aR ms=false):=λk hk hl=>by
  rcases h:aR ms with _|_
  .rfl
  .have:=fV ms h k hk;omega
 have H0:Hid _:=fW ms;generalize hN:ms.length=n at *;have HN:Hid _:=hN;clear hN;generalize hC:aR ms=res at *;have HC:Hid _:=hC;clear hC;go_enter Tryz.func151,Tryz.ntmps151;go_wp2_with fail;go_loopw [5] (λi w'=>∃k:Nat,(k+1<=n\/k=0)/\i=U O (k+1)/\Below w.heap.size w w'/\Hid (∀j,j<k->ord (ms.getD j dm) (ms.getD (j+1) dm)<0)) (λi _=>n-(intOf i).toNat)
 case atStart=>exact⟨0,.inr rfl,rfl,Ib _ _,λj h=>absurd h (Jj _)⟩
 case round=>
  obtain⟨q,hq,rfl,aO,hz⟩:=hrel;obtain⟨cK,kj⟩:=cd aO;have cB:=aO.size;by_cases aX:q+1<n
  .obtain⟨c0,c1,c2,c3,c4,c5⟩:=HR.out q (by rw[HN.out];omega)
   obtain⟨d0,d1,d2,d3,d4,d5⟩:=HR.out (q+1) (by rw[HN.out];exact aX);have HK:Hid (0<=ord (ms.getD q dm) (ms.getD (q+1) dm)->res=false):=λh=>H4.out q aX h;have HZ:Hid (ord (ms.getD q dm) (ms.getD (q+1) dm)<0->∀j,j<q+1->ord (ms.getD j dm) (ms.getD (j+1) dm)<0):=λh j hj=>by
    rcases I6.1 hj with h2|rfl
    .exact hz.out j h2
    .exact h
   generalize ms.getD q dm=m1 at *;generalize ms.getD (q+1) dm=m2 at *;have hN:∀d os,aK 150 #[Ik #[Y m1.node,U O m1.x,U O m1.y,U O m1.z,U O m1.h,U O m1.s],Ik #[Y m2.node,U O m2.x,U O m2.y,U O m2.z,U O m2.h,U O m2.s]] (Ig (Im wr d) os) λe fR=>e=AT (U O (ord m1 m2))/\∃p:Regrown,fR=Ig (Im wr p.d) p.os:=λd os=>Calls.regrown_of (CA m1 m2 _);have F0:∀d os,(Ig (Im wr d) os).cell? ⟨b,off+q*6,be⟩=AI (Y m1.node):=Ih ((cK _ _ hb).trans c0);have F1:∀d os,(Ig (Im wr d) os).cell? ⟨b,off+q*6+1,be⟩=AI (U O m1.x):=Ih ((cK _ _ hb).trans c1);have F2:∀d os,(Ig (Im wr d) os).cell? ⟨b,off+q*6+2,be⟩=AI (U O m1.y):=Ih ((cK _ _ hb).trans c2);have F3:∀d os,(Ig (Im wr d) os).cell? ⟨b,off+q*6+3,be⟩=AI (U O m1.z):=Ih ((cK _ _ hb).trans c3);have F4:∀d os,(Ig (Im wr d) os).cell? ⟨b,off+q*6+4,be⟩=AI (U O m1.h):=Ih ((cK _ _ hb).trans c4);have F5:∀d os,(Ig (Im wr d) os).cell? ⟨b,off+q*6+5,be⟩=AI (U O m1.s):=Ih ((cK _ _ hb).trans c5);have G0:∀d os,(Ig (Im wr d) os).cell? ⟨b,off+(q+1)*6,be⟩=AI (Y m2.node):=Ih ((cK _ _ hb).trans d0);have G1:∀d os,(Ig (Im wr d) os).cell? ⟨b,off+(q+1)*6+1,be⟩=AI (U O m2.x):=Ih ((cK _ _ hb).trans d1);have G2:∀d os,(Ig (Im wr d) os).cell? ⟨b,off+(q+1)*6+2,be⟩=AI (U O m2.y):=Ih ((cK _ _ hb).trans d2);have G3:∀d os,(Ig (Im wr d) os).cell? ⟨b,off+(q+1)*6+3,be⟩=AI (U O m2.z):=Ih ((cK _ _ hb).trans d3);have G4:∀d os,(Ig (Im wr d) os).cell? ⟨b,off+(q+1)*6+4,be⟩=AI (U O m2.h):=Ih ((cK _ _ hb).trans d4);have G5:∀d os,(Ig (Im wr d) os).cell? ⟨b,off+(q+1)*6+5,be⟩=AI (U O m2.s):=Ih ((cK _ _ hb).trans d5);clear c0 c1 c2 c3 c4 c5 d0 d1 d2 d3 d4 d5 cK kj;generalize ord m1 m2=r at *;have Lr:IntKind.i64.wrap (q:Int)=(q:Int):=by rw[IntKind.wrap_i64];omega
   have Gn:q<n:=by omega
   have hq1:(q:Int)+1<(n:Int):=by omega
   have hq0:(0:Int)<=(q:Int)+1:=by omega
   have Gp:((q:Int)+1).toNat=q+1:=by omega
   by_cases hl:r<0
   .have jE:¬ (0<=r):=by omega
    go_wp2_with fail;refine IA (by kernel_rfl) (by kernel_rfl) ?_;repeat(quiet_step (exact hN _ _))
    refine bu λdq gW dF=>?_;clear hN F0 F1 F2 F3 F4 F5 G0 G1 G2 G3 G4 G5;go_wp2_with fail;go_roundw
    case rel=>exact⟨q+1,.inl (by omega),by go_num,aO.trans (dF.out.mono cB),HZ.out hl⟩
    case measure=>simp[intOf];omega
   .have jE:0<=r:=by omega
    have h4:Hid _:=HK.out jE;go_wp2_with fail;refine IA (by kernel_rfl) (by kernel_rfl) ?_;repeat(quiet_step (exact hN _ _))
    refine bu λdq gW dF=>?_;clear hN F0 F1 F2 F3 F4 F5 G0 G1 G2 G3 G4 G5;go_wp2_with fail;go_ret;exact⟨aW h4.out.symm,aO.trans (dF.out.mono cB)⟩
  .have h0:Hid _:=H0.out λj hj=>hz.out j (by omega)
   go_wp2_with fail;go_ret;exact⟨aW h0.out.symm,aO⟩
theorem jq(ms:List bT)(b off cap:Nat)(w:World)(hr:Row w b off ms)(hb:b<w.heap.size)(hn:ms.length<=20)(hs:∀j,(ms.getD j dm).ok) :
 ly 104 #[J (AI ⟨b,off,be⟩) ms.length cap] w (U O (bp ms)):=by
 have HR:Hid (Row w b off ms):=hr;have HE:Hid (∀k,k<ms.length->(∀j,j<k->(ms.getD j dm).e=0)->(ms.getD k dm).e≠0->bp ms=(ms.getD k dm).e):=λk h1 h2 h3=>uH ms k hn h1 h2 h3;have H4:Hid ((∀j,j<ms.length->(ms.getD j dm).e=0)->bp ms=if aR ms=true then 0 else 4):=λh1=>tn ms hn h1;have Mi:Hid (∀w',Below w.heap.size w w'->aK _ _ _ _):=λw' xK=>CB ms b off cap w' (hr.later xK hb) (Nat.lt_of_lt_of_le hb xK.size) hn;clear hr;generalize hN:ms.length=n at *;have HN:Hid _:=hN;clear hN;have HS:Hid _:=hs;clear hs;generalize hC:bp ms=res at *;have HC:Hid _:=hC;clear hC;generalize Mj:aR ms=rb at *;have P6:Hid _:=Mj;clear Mj;go_enter Tryz.func104,Tryz.ntmps104;go_wp2_with fail;go_loopw [12] (λi w'=>∃k:Nat,k<=n/\i=U O k/\Below w.heap.size w w'/\Hid (∀j,j<k->(ms.getD j dm).e=0)) (λi _=>n-(intOf i).toNat)
 case atStart=>exact⟨0,IF _,rfl,Ib _ _,λj h=>absurd h (Jj _)⟩
 case round=>
  obtain⟨k,hk,rfl,aO,hz⟩:=hrel;obtain⟨cK,kj⟩:=cd aO;have cB:=aO.size;by_cases aX:k<n
  .obtain⟨c0,c1,c2,c3,c4,c5⟩:=HR.out k (by rw[HN.out];exact aX)
   have EJ:Hid _:=HS.out k;have HK:Hid ((ms.getD k dm).e≠0->res=(ms.getD k dm).e):=λh=>HE.out k aX hz.out h;have HZ:Hid ((ms.getD k dm).e=0->∀j,j<k+1->(ms.getD j dm).e=0):=λh j hj=>by
    rcases I6.1 hj with h2|rfl
    .exact hz.out j h2
    .exact h
   generalize ms.getD k dm=m at *;have RF:=EJ.out;have HD:Hid (m.e=if bl m.node=true then eF ⟨m.x,m.y,m.z,m.h,m.s⟩ else 1):=rfl;generalize m.e=me at *;have VZ:Hid (Below w.heap.size w (wr.alloc (.cells #[Y m.node,U O m.x,U O m.y,U O m.z,U O m.h,U O m.s] 116))):=aO.alloc cB _;rcases h1:bl m.node with _|_
   .have qe:Hid (res=1):=(HK.out (by rw[HD.out];simp[h1])).trans (by rw[HD.out];simp[h1])
    go_wp2_with (go_at_call 50;refine(cj _ _ RF).mono ?_;rintro e w' ⟨rfl,rfl⟩;rw[h1]);go_ret;exact⟨an qe.out.symm,VZ.out⟩
   .have HP:Hid (∀W,aK _ _ _ _):=λW=>mO ⟨m.x,m.y,m.z,m.h,m.s⟩ W
    have RG:Hid (me=eF ⟨m.x,m.y,m.z,m.h,m.s⟩):=HD.out.trans (by rw[h1];exact if_pos rfl);generalize eF ⟨m.x,m.y,m.z,m.h,m.s⟩=pe at *;rcases he:decide (pe=0) with _|_
    .have lE:(pe !=0)=true:=by simpa using he
     have qe:Hid _:=(HK.out (by rw[RG.out];simpa using he)).trans RG.out;clear he;go_wp2_with (first|(go_at_call 50;refine(cj _ _ RF).mono ?_;rintro e w' ⟨rfl,rfl⟩;rw[h1])|(go_at_call 100;refine(HP.out _).mono ?_;rintro e w' ⟨rfl,aL⟩));go_ret;exact⟨an qe.out.symm,VZ.out.trans (aL.mono (by simp;omega))⟩
    .have lE:(pe !=0)=false:=by simpa using he
     have HM0:Hid _:=RG.out.trans (by simpa using he);clear he;go_wp2_with (first|(go_at_call 50;refine(cj _ _ RF).mono ?_;rintro e w' ⟨rfl,rfl⟩;rw[h1])|(go_at_call 100;refine(HP.out _).mono ?_;rintro e w' ⟨rfl,aL⟩));go_roundw
     case rel=>exact⟨k+1,by omega,by go_num,VZ.out.trans (aL.mono (by simp;omega)),HZ.out HM0.out⟩
     case measure=>simp[intOf];omega
  .have ki:Hid (∀j,j<n->(ms.getD j dm).e=0):=λj hj=>hz.out j (by omega)
   have qe:Hid _:=H4.out ki.out;clear hz ki H4 HE HC P6;cases rb
   .go_wp2_with (go_at_call 151;refine(Mi.out _ aO).mono ?_;rintro e w' ⟨rfl,aL⟩)
    go_ret;exact⟨an (by rw[qe.out];rfl),aO.trans (aL.mono cB)⟩
   .go_wp2_with (go_at_call 151;refine(Mi.out _ aO).mono ?_;rintro e w' ⟨rfl,aL⟩)
    go_ret;exact⟨an (by rw[qe.out];rfl),aO.trans (aL.mono cB)⟩
theorem gX(a:Option Addr)(n cap:Nat)(w:World)(hn:20<n) :
 aK 104 #[J a n cap] w λe w'=>e=AT (U O 2)/\w'=w:=by
 go_enter Tryz.func104,Tryz.ntmps104;go_wp2_with fail;go_ret;exact⟨rfl,rfl⟩
theorem gY(a:Option Addr)(cap:Nat)(w:World) :
 aK 104 #[J a 0 cap] w λe w'=>e=AT (U O 0)/\w'=w:=by
 go_enter Tryz.func104,Tryz.ntmps104;go_wp2_with fail;go_loop [12] (λi=>i=U O 0) (λ_=>0)
 case atStart=>rfl
 case round=>
  subst hrel;go_wp2_with (go_at_call 151;refine(gZ _ _ _ _).mono ?_;rintro e w' ⟨rfl,rfl⟩);go_ret;exact⟨rfl,rfl⟩
theorem bD(ms:List bT)(v:Value)(w:World)(h:Sl w v ms) :
 ly 104 #[v] w (U O (bp ms)):=by
 obtain⟨a,cap,rfl,hs,h⟩:=h;by_cases hn:20<ms.length
 .refine(gX a ms.length cap w hn).mono ?_
  rintro e w' ⟨rfl,rfl⟩;exact⟨an (by rw[bp,if_pos hn]),Ib _ _⟩
 .rcases h with rfl|⟨b,off,rfl,hb,hr⟩
  .refine(gY a cap w).mono ?_
   rintro e w' ⟨rfl,rfl⟩;exact⟨rfl,Ib _ _⟩
  .exact jq ms b off cap w hr hb (by omega) hs
end Wh
end Go.Proofs.YtbfghimjdlpicaaGreatDoor
namespace Go.Proofs.YtbfghimjdlpicaaGreatDoor
open Go.RowKit Go.WideMaps Go.Maps
def mP(ms:List Mem):List ByteArray:=ms.map (·.name)
theorem jt(ms:List Mem)(k:Nat):(mP ms).getD k Ix=(ms.getD k dm).name:=by
 by_cases h:k<ms.length
 .simp[mP,List.getD,List.getElem?_eq_getElem h]
 .simp[mP,List.getD,List.getElem?_eq_none (by omega:ms.length<=k),dm]
structure EK(D:DataW Unit)(ns:List ByteArray)(k:Nat):Prop where
 tidy:Tidy D
 has:∀s,QU D (kS s)=QU (Dm ns k) (kS s)
 size:JK D=JK (Dm ns k)
 val:∀s,∃c:Int,D.atKey (kS s) (.lit (.int O 0))=.lit (.int O c)/\0<=c/\c<=k
theorem AO(ns:List ByteArray):EK (.map []) ns 0:=⟨tidy_empty,λ_=>rfl,rfl,λ_=>⟨0,rfl,Int.le_refl _,Int.le_refl _⟩⟩
theorem AP{D:DataW Unit}{ns:List ByteArray}{k:Nat}(h:EK D ns k){c:Int}(hc:D.atKey (kS (ns.getD k Ix)) (.lit (.int O 0))=.lit (.int O c)) :
 0<=c/\c<=k/\EK (D.put (kS (ns.getD k Ix)) (.lit (.int O (c+1)))) ns (k+1):=by
 obtain⟨c',hc',h0,h1⟩:=h.val (ns.getD k Ix);rw[hc] at hc';have e:c=c':=by injection hc' with h;injection h
 subst e;refine⟨h0,h1,h.tidy.put (qf _) _,λs=>?_,?_,λs=>?_⟩
 .by_cases e:ns.getD k Ix=s
  .subst e;rw[has_put_same h.tidy.isMap (qf _),Dm,has_put_same (rn ns k).isMap (qf _)]
  .rw[has_put_other (AQ (Ne.symm e)),Dm,has_put_other (AQ (Ne.symm e))];exact h.has s
 .rw[size_put h.tidy,uf,h.has,h.size]
 .by_cases e:ns.getD k Ix=s
  .subst e;exact⟨c+1,by rw[atKey_put_same h.tidy.isMap (qf _)],by omega,by omega⟩
  .rw[atKey_put_other (AQ (Ne.symm e))]
   obtain⟨d,hd,d0,d1⟩:=h.val s;exact⟨d,hd,d0,by omega⟩
theorem V0{D:DataW Unit}{ms:List Mem}(h:EK D (mP ms) ms.length)(hd:¬ n9 ms):JK D<ms.length:=by
 rw[h.size];apply mQ;apply Classical.byContradiction;intro hx;apply hd;intro i j jS hj e;exact hx ⟨i,j,jS,hj,by rw[jt,jt];exact e⟩
theorem V4{D:DataW Unit}{ms:List Mem}(h:EK D (mP ms) ms.length)(hd:n9 ms):JK D=ms.length:=by
 rw[h.size];exact mR _ _ (λi j jS hj=>by rw[jt,jt];exact hd i j jS hj)
theorem uI{w w':World}{b n:Nat}{D:DataW Unit}(h:w.ownsMap AS 9 (Qg (H:=Unit) AS 3) b n D)(hb:Below w.heap.size w w'):w'.ownsMap AS 9 (Qg (H:=Unit) AS 3) b n D:=by
 have hl:=h.lt;obtain⟨es,clock,h1,h2⟩:=h;exact⟨es,clock,(hb.block b hl).trans h1,h2⟩
theorem row_one{w:World}{b off:Nat}{ms:List Mem}(hr:Row w b off ms){k:Nat}(hk:k<ms.length):Row w b (off+k*5) [ms.getD k dm]:=λj hj=>by
 have:j=0:=by simpa using hj
 subst this;simpa using hr k hk
def Roomy(v:Value):Prop:=match v with
 | J _ n c=>n<=c
 |_=>True
theorem wV(ms:List Mem)(v:Value)(w:World)(hv:Sl w v ms)(dN:Roomy v) :
 Calls AS 103 #[v] w λe w'=>e=AT (U O (mS ms))/\Below w.heap.size w w':=by
 obtain⟨pa,ca,rfl,cB,ha⟩:=hv;have ank:ms.length<=ca:=dN;clear dN;by_cases hmany:5<ms.length
 .have HE:Hid (mS ms=2):=Gq hmany
  go_enter Tryz.func103,Tryz.ntmps103;go_wp2_with fail;go_ret;exact⟨an HE.out.symm,Ib _ _⟩
 have HA:Hid _:=ha;have HS:Hid (∀j,(ms.getD j dm).name.size<=maxLen):=cB;clear ha cB;generalize hN:ms.length=n at *;have HN:Hid (ms.length=n):=hN;clear hN;have hn5:n<=5:=by omega
 have CC:=jU;go_enter Tryz.func103,Tryz.ntmps103;go_wp2;go_loopw [15] (λi wr=>∃k:Nat,k<=n/\i=U O k/\Hid (∀j,j<k->(ms.getD j dm).e=0)/\Hid (∃D,wr.ownsMap AS 9 (Qg (H:=Unit) AS 3) w.heap.size k D/\EK D (mP ms) k)/\Hid (Below w.heap.size w wr)) (λi _=>n-(intOf i).toNat)
 case atStart=>exact⟨0,IF _,rfl,λj hj=>by omega,⟨_,World.ownsMap_made _ _ _ _,AO _⟩,(Ib _ _).alloc (Ie _) _⟩
 case round=>
  obtain⟨k,hk,rfl,HZ,HD,HB⟩:=hrel;obtain⟨D,HO,HC⟩:=HD.out;have HO:Hid (wr.ownsMap AS 9 (Qg (H:=Unit) AS 3) w.heap.size k D):=HO;have HC:Hid (EK D (mP ms) k):=HC;clear HD;by_cases aX:k<n
  .obtain⟨b,off,hp,hl,hr⟩:∃b off,pa=AI ⟨b,off,be⟩/\b<w.heap.size/\Row w b off ms:=by
    rcases HA.out with h|h
    .have:=HN.out;rw[h] at this;simp at this;omega
    .exact h
   subst hp;have mI:=hr.later HB.out hl;obtain⟨c0,c1,c2,c3,c4⟩:=mI k (by rw[HN.out];exact aX);have cY:=HS.out k;have HX:Hid ((ms.getD k dm).e≠0->mS ms=(ms.getD k dm).e):=λh=>V5 (by rw[HN.out];exact hn5) (by rw[HN.out];exact aX) HZ.out h;have ma:Hid ((ms.getD k dm).e=0->∀j,j<k+1->(ms.getD j dm).e=0):=λh j hj=>by
    by_cases e:j=k
    .subst e;exact h
    .exact HZ.out j (by omega)
   have yQ:Hid (Row wr b (off+k*5) [ms.getD k dm]):=row_one mI (by rw[HN.out];exact aX);have HG:Hid (∀(c:Int),D.atKey (kS (ms.getD k dm).name) (.lit (.int O 0))=.lit (.int O c)->0<=c/\c<=k/\EK (D.put (kS (ms.getD k dm).name) (.lit (.int O (c+1)))) (mP ms) (k+1)):=λc hc=>by
    have h:=AP HC.out (c:=c) (by rw[jt];exact hc);rw[jt] at h;exact h
   have cB:=HB.out.size;generalize(ms.getD k dm)=mk at *;have od:Hid (∀W,Below wr.heap.size wr W->∀cc,Calls AS 96 #[J (AI ⟨b,off+k*5,be⟩) 1 cc] W λe w'=>e=AT (U O mk.e)/\Below W.heap.size W w'):=λW hW cc=>by
    have h:=bD [mk] (J (AI ⟨b,off+k*5,be⟩) 1 cc) W ⟨_,cc,rfl,cD (λx hx=>by simp at hx;subst hx;exact cY),.inr ⟨b,_,rfl,by have:=hW.size;omega,yQ.out.later hW (by omega)⟩⟩;rw[kN] at h;exact h
   obtain⟨nm,st,lf,ad,sv⟩:=mk;simp only at c0 c1 c2 c3 c4 cY HX ma HG od;have AR:keyOf AS 9 (Y nm)=AI (kS nm):=keyOf_string_mk Tryz.underlying9 cY;clear hr mI HZ yQ;have eJ:(k:Int)<n:=by omega
   have hkc:(k:Int)+1<=(ca:Int):=by omega
   go_wp2_with fail;refine(od.out _ ((Ib _ _).alloc (Ie _) _) _).mono ?_;rintro e w1 ⟨rfl,aC⟩;have mT:Hid (w1.ownsMap _ _ _ _ _ _):=uI (HO.out.alloc _) aC;have aZ:Hid _:=(HB.out.alloc HB.out.size _).trans (aC.mono (by simp;omega));have hm0:w1.cell? ⟨wr.heap.size,0,be⟩=AI (Y nm):=(aC.cell (p:=⟨wr.heap.size,0,be⟩) (by simp)).trans (by simp);clear aC c0 c1 c2 c3 c4 HB HO od;by_cases he:(Mem.mk nm st lf ad sv).e=0
   .have lE:((Mem.mk nm st lf ad sv).e !=0)=false:=by simpa using he
    have qV:Hid _:=ma.out he;clear HX ma he;generalize(Mem.mk nm st lf ad sv).e=me at *;obtain⟨c,kO,cA,_⟩:=mT.out.lookup_int Gr JG IH (CD _) AR;obtain⟨g0,g1,g2⟩:=HG.out c cA;have yR:Hid _:=g2;clear g2 cA HG;go_wp2_with (first
     |(at_mapUpdate;refine wpList_mapUpdate_own _ rfl _ _ _ 166 rfl 9 3 Gr JG _ w.heap.size k _ rfl mT.out (by unfold maxLen;omega) _ _ _ rfl rfl AR _ [] (plainElem_int IH (WalkArith.wf_i64 (by omega))) ?_)
     |fail)
    intro w2 AU uJ;have R1:Hid (∃D,w2.ownsMap AS 9 (Qg (H:=Unit) AS 3) w.heap.size (k+1) D/\EK D (mP ms) (k+1)):=⟨_,AU,yR.out⟩;have R2:Hid _:=aZ.out.grown uJ aZ.out.size (λj hj=>by cases hj;exact Ie _);clear AU uJ mT aZ;go_wp2_with fail;go_roundw
    case rel=>exact⟨k+1,by omega,by go_num,qV,R1,R2⟩
    case measure=>simp[intOf];omega
   .have lE:((Mem.mk nm st lf ad sv).e !=0)=true:=by simpa using he
    have HR:Hid _:=HX.out he;generalize(Mem.mk nm st lf ad sv).e=me at *;clear he HX ma;go_wp2_with fail;go_ret;exact⟨an HR.out.symm,aZ.out⟩
  .have eJ:k=n:=by omega
   subst eJ;have jH:Hid (JK D<k↔¬ n9 ms):=by
    have h1:=HC.out;rw[<- HN.out] at h1 ⊢;exact⟨λh hd=>by rw[V4 h1 hd] at h;omega,λhd=>V0 h1 hd⟩
   have yS:Hid (¬ n9 ms->mS ms=6):=λhd=>CE (by rw[HN.out];exact hn5) (λj hj=>HZ.out j (by rw[<- HN.out];exact hj)) hd;have lP:Hid (n9 ms->mS ms=0):=λhd=>EN (by rw[HN.out];exact hn5) (λj hj=>HZ.out j (by rw[<- HN.out];exact hj)) hd;by_cases hd:n9 ms
   .have HE:Hid _:=lP.out hd
    have hs:¬ ((JK D:Int)<(k:Int)):=by have:=jH.out;intro h;exact(this.1 (by omega)) hd
    clear yS lP hd jH HZ;go_wp2_with (at_len;refine wpList_len_own _ rfl _ 166 rfl 9 3 JG _ _ _ _ rfl HO.out ?_);go_ret;exact⟨an HE.out.symm,HB.out⟩
   .have HE:Hid _:=yS.out hd
    have hs:((JK D:Int)<(k:Int)):=by have:=jH.out.2 hd;omega
    clear yS lP hd jH HZ;go_wp2_with (at_len;refine wpList_len_own _ rfl _ 166 rfl 9 3 JG _ _ _ _ rfl HO.out ?_);go_ret;exact⟨an HE.out.symm,HB.out⟩
structure lz(w:World)(p:Pk)(vm vs vg vw:Value):Prop where
 ms:Sl w vm p.ms
 sv:Sv.Sl w vs p.sv
 gw:Gw.Sl w vg p.gw
 wh:Wh.Sl w vw p.wh
 du:p.du.size<=maxLen
 room:Roomy vm
theorem lz.below{w w':World}{p:Pk}{vm vs vg vw:Value}(h:lz w p vm vs vg vw)(hb:Below w.heap.size w w'):lz w' p vm vs vg vw:=⟨h.ms.below hb,h.sv.below hb,h.gw.below hb,h.wh.below hb,h.du,h.room⟩
theorem oe{α:Type}(l:List α):l.isEmpty=decide (l.length=0):=by cases l<;>simp
theorem mU(p:Pk)(vm vs vg vw:Value)(w:World)(h:lz w p vm vs vg vw)(hlen:p.whole=true\/p.sv.length+p.gw.length+p.wh.length<=4611686018427387904) :
 Calls AS 59 #[Ik #[Y p.du,.bool p.whole,vm,vs,vg,vw]] w λe w'=>e=AT (U O p.e)/\Below w.heap.size w w':=by
 obtain⟨du,whole,ms,sv,gw,wh⟩:=p;obtain⟨gE,Lu,wW,RH,P7,dN⟩:=h;simp only at gE Lu wW RH P7 hlen ⊢;have T0:Hid (∀W,Below w.heap.size w W->Calls _ _ _ _ _):=λW hW=>bD ms vm W (gE.below hW);have HM2:Hid (∀W,Below w.heap.size w W->Calls _ _ _ _ _):=λW hW=>wV ms vm W (gE.below hW) dN;have HS:Hid (∀W,Below w.heap.size w W->Calls _ _ _ _ _):=λW hW=>Sv.bD sv vs W (Lu.below hW);have HG:Hid (∀W,Below w.heap.size w W->Calls _ _ _ _ _):=λW hW=>Gw.bD gw vg W (wW.below hW);have HW:Hid (∀W,Below w.heap.size w W->Calls _ _ _ _ _):=λW hW=>Wh.bD wh vw W (RH.below hW);have HE:Hid (Pk.e ⟨du,whole,ms,sv,gw,wh⟩=if(bl du&&(whole||(decide (sv.length=0)&&(decide (gw.length=0)&&decide (wh.length=0)))))=true then
  (if(if whole=true then bp ms else mS ms)=0 then(if Sv.bp sv=0 then(if Gw.bp gw=0 then Wh.bp wh else Gw.bp gw) else Sv.bp sv) else(if whole=true then bp ms else mS ms)) else 1):=by
  show Pk.e _=_;rw[<- oe,<- oe,<- oe];rfl
 generalize Pk.e ⟨du,whole,ms,sv,gw,wh⟩=res at *;obtain⟨a2,c2,rfl,_,_⟩:=Lu;obtain⟨a3,c3,rfl,_,_⟩:=wW;obtain⟨a4,c4,rfl,_,_⟩:=RH;clear gE dN;generalize Sv.bp sv=se at *;generalize Gw.bp gw=ge at *;generalize Wh.bp wh=we at *;generalize bp ms=m1 at *;generalize mS ms=m2 at *;generalize sv.length=n2 at *;generalize gw.length=n3 at *;generalize wh.length=n4 at *;obtain⟨W0,bP,bK,-,dX⟩:=bV w #[Y du,.bool whole,vm,J a2 n2 c2,J a3 n3 c3,J a4 n4 c4] 61;have fj:w.heap.size<W0.heap.size:=by rw[bP];simp
 have df:Hid _:=bK;have Aq:Hid _:=dX;have HX:Hid (∀W,Below W0.heap.size W0 W->(W.cell? ⟨w.heap.size,2,be⟩=AI vm/\W.cell? ⟨w.heap.size,3,be⟩=AI (J a2 n2 c2)/\W.cell? ⟨w.heap.size,4,be⟩=AI (J a3 n3 c3)/\W.cell? ⟨w.heap.size,5,be⟩=AI (J a4 n4 c4))/\Below w.heap.size w W):=λW hW=>
  have hg:=(hW.block _ fj).trans dX
  ⟨⟨ae hg 2,ae hg 3,ae hg 4,ae hg 5⟩,bK.trans (hW.mono (by omega))⟩
 have lx:Hid (∀W W',Below W0.heap.size W0 W->Below W.heap.size W W'->Below W0.heap.size W0 W'):=λW W' h1 h2=>h1.trans (h2.mono h1.size);go_enter Tryz.func59,Tryz.ntmps59;rcases hlab:bl du with _|_
 .have HR:Hid (res=1):=HE.out.trans (by rw[hlab];rfl)
  go_wp2_with (go_at_call 50;refine(cj _ _ P7).mono ?_;rintro e w' ⟨rfl,rfl⟩;rw[hlab]);go_ret;exact⟨an HR.out.symm,(Ib _ _).alloc (Ie _) _⟩
 .cases whole
  .by_cases hal:n2=0/\n3=0/\n4=0
   .obtain⟨rfl,rfl,rfl⟩:=hal
    have lP:Hid (res=if m2=0 then(if se=0 then(if ge=0 then we else ge) else se) else m2):=HE.out.trans (by rw[hlab];rfl);clear HE T0;go_wp2_with (first|(go_at_call 50;refine(cj _ _ P7).mono ?_;rintro e w' ⟨rfl,rfl⟩;rw[hlab])|fail);rw[<- bP];refine(HM2.out _ df.out).mono ?_;rintro e w1 ⟨rfl,aC⟩;obtain⟨⟨x2,x3,x4,x5⟩,Mk⟩:=HX.out w1 aC;have aZ:Hid _:=aC;have jI:Hid _:=Mk;clear aC Mk;by_cases hm:m2=0
    .subst hm
     go_wp2_with fail;refine(HS.out _ jI.out).mono ?_;rintro e w2 ⟨rfl,aL⟩;have bA:Hid _:=lx.out _ _ aZ.out aL;clear x2 x3 x4 x5 aL;obtain⟨⟨x2,x3,x4,x5⟩,wX⟩:=HX.out w2 bA.out;have rq:Hid _:=wX;clear wX;by_cases hse:se=0
     .subst hse
      go_wp2_with fail;refine(HG.out _ rq.out).mono ?_;rintro e w3 ⟨rfl,bY⟩;have cF:Hid _:=lx.out _ _ bA.out bY;clear x2 x3 x4 x5 bY;obtain⟨⟨x2,x3,x4,x5⟩,Ml⟩:=HX.out w3 cF.out;have og:Hid _:=Ml;clear Ml;by_cases AV:ge=0
      .subst AV
       go_wp2_with fail;refine(HW.out _ og.out).mono ?_;rintro e w4 ⟨rfl,eV⟩;have AW:Hid _:=og.out.trans (eV.mono og.out.size);clear eV;go_wp2_with fail;go_ret;exact⟨an lP.out.symm,AW.out⟩
      .have abc:(ge !=0)=true:=by simpa using AV
       have HR:Hid (res=ge):=lP.out.trans (by simp[AV]);clear AV;go_wp2_with fail;go_ret;exact⟨an HR.out.symm,og.out⟩
     .have abd:(se !=0)=true:=by simpa using hse
      have HR:Hid (res=se):=lP.out.trans (by simp[hse]);clear hse;go_wp2_with fail;go_ret;exact⟨an HR.out.symm,rq.out⟩
    .have hm':(m2 !=0)=true:=by simpa using hm
     have HR:Hid _:=lP.out.trans (if_neg hm);clear hm;go_wp2_with fail;go_ret;exact⟨an HR.out.symm,jI.out⟩
   .have HR:Hid (res=1):=HE.out.trans (by
     rw[hlab,if_neg];simp only[Bool.true_and,Bool.false_or,Bool.and_eq_true,decide_eq_true_eq];exact hal)
    have hlen:n2+n3+n4<=4611686018427387904:=by
     rcases hlen with h|h
     .cases h
     .exact h
    have ann:(0:Int)<(n2:Int)+(n3:Int)+(n4:Int):=by omega
    go_wp2_with (go_at_call 50;refine(cj _ _ P7).mono ?_;rintro e w' ⟨rfl,rfl⟩;rw[hlab]);go_ret;exact⟨an HR.out.symm,(Ib _ _).alloc (Ie _) _⟩
  .have lP:Hid (res=if m1=0 then(if se=0 then(if ge=0 then we else ge) else se) else m1):=HE.out.trans (by rw[hlab];rfl)
   clear HE HM2;go_wp2_with (first|(go_at_call 50;refine(cj _ _ P7).mono ?_;rintro e w' ⟨rfl,rfl⟩;rw[hlab])|fail);rw[<- bP];refine(T0.out _ df.out).mono ?_;rintro e w1 ⟨rfl,aC⟩;obtain⟨⟨x2,x3,x4,x5⟩,Mk⟩:=HX.out w1 aC;have aZ:Hid _:=aC;have jI:Hid _:=Mk;clear aC Mk;by_cases hm:m1=0
   .subst hm
    go_wp2_with fail;refine(HS.out _ jI.out).mono ?_;rintro e w2 ⟨rfl,aL⟩;have bA:Hid _:=lx.out _ _ aZ.out aL;clear x2 x3 x4 x5 aL;obtain⟨⟨x2,x3,x4,x5⟩,wX⟩:=HX.out w2 bA.out;have rq:Hid _:=wX;clear wX;by_cases hse:se=0
    .subst hse
     go_wp2_with fail;refine(HG.out _ rq.out).mono ?_;rintro e w3 ⟨rfl,bY⟩;have cF:Hid _:=lx.out _ _ bA.out bY;clear x2 x3 x4 x5 bY;obtain⟨⟨x2,x3,x4,x5⟩,Ml⟩:=HX.out w3 cF.out;have og:Hid _:=Ml;clear Ml;by_cases AV:ge=0
     .subst AV
      go_wp2_with fail;refine(HW.out _ og.out).mono ?_;rintro e w4 ⟨rfl,eV⟩;have AW:Hid _:=og.out.trans (eV.mono og.out.size);clear eV;go_wp2_with fail;go_ret;exact⟨an lP.out.symm,AW.out⟩
     .have abc:(ge !=0)=true:=by simpa using AV
      have HR:Hid (res=ge):=lP.out.trans (by simp[AV]);clear AV;go_wp2_with fail;go_ret;exact⟨an HR.out.symm,og.out⟩
    .have abd:(se !=0)=true:=by simpa using hse
     have HR:Hid (res=se):=lP.out.trans (by simp[hse]);clear hse;go_wp2_with fail;go_ret;exact⟨an HR.out.symm,rq.out⟩
   .have hm':(m1 !=0)=true:=by simpa using hm
    have HR:Hid _:=lP.out.trans (if_neg hm);clear hm;go_wp2_with fail;go_ret;exact⟨an HR.out.symm,jI.out⟩
end Go.Proofs.YtbfghimjdlpicaaGreatDoor
