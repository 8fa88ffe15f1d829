import Derived.Test.YtbfghimjdlpicaaGreatDoorna43
set_option maxHeartbeats 51200000
set_option maxRecDepth 100000
open Go.Value renaming int→U,slice→J,bool→Ia,string→Y
open Go.IntKind renaming i64→O
open Go.Ending renaming returned→AT
open Go.Proofs.Tryz renaming prog→AS
open Nat renaming le_refl→Ie,zero_add→ID,zero_le→IF
open Option renaming some→AI,none→be
open Go renaming heap_alloc_new→Ij,redrawn→Im,below_regrown→ON,cell_regrown→Ih,wp_region_quiet_below→IA
open Array renaming getElem?_eq_some_iff→BY
open Go.Sort renaming grow→Ig
namespace Go.Proofs.YtbfghimjdlpicaaGreatDoor
open Go.RowKit
theorem uA(nodes eE:Int)(l:List Ev)(la:Option Addr)(lc:Nat)(w:World)(hV:Rv w.heap.size w)(hn : -9223372036854775808<=nodes/\nodes<=9223372036854775807)(hc : -9223372036854775808<=eE/\eE<=9223372036854775807)(hl:K7 w la l)(Nz:l.length<=maxLen) :
 Calls AS 3 #[U O nodes,U O eE,J la l.length lc] w λe w'=>e=AT (Ia true)/\Below w.heap.size w w':=by
 have HV:Hid _:=hV;have Du:Hid (∀W,Below w.heap.size w W->Calls _ _ _ _ _):=λW hW=>xA W (hV.after hW);have HOB:Hid (∀W,Calls _ _ _ _ _):=λW=>xy W;have LM:Hid (∀W,Below w.heap.size w W->Calls _ _ _ _ _):=λW hW=>Eu nodes eE W (hV.after hW) hn hc;have HRU:Hid (∀W u t a m c d k q,Below w.heap.size w W->Below u.heap.size u W->fC u t (J a m c) (J d k q)->bE t/\Kept 0 t/\0<t.ns.length->Calls AS 7 #[.agg #[J a m c,J d k q],J la l.length lc,.func (.func 8) #[] #[]] W λe w'=>Below W.heap.size W w'/\∃t a k c b m d,e=AT (.tuple #[.agg #[J a k c,J b m d],Ia true])/\Hid ((fC u t (J a k c) (J b m d)\/eP (W.heap.size+2) w' t (J a k c) (J b m d))/\bE t/\(∃i,i<=40/\Kept i t)/\0<t.ns.length)):=λW u t a m c d k q hW hu h1 h2=>by
  refine(Tz 8 (enters_of Tryz.func8 (by kernel_rfl) rfl) l la lc t _ _ W (hV.after hW) (hl.below hW) u hu h1 Kept ⟨h2.1,h2.2.1⟩ (λ_ _ h=>h.more) (λ_ _ _ a b c d=>so a b c d) Nz (λW2 t t' a1 n1 c1 d1 l1 q1 a2 n2 c2 d2 l2 q2 _ _ _ _ _=>Ey a1 d1 a2 d2 n1 c1 l1 q1 n2 c2 l2 q2 W2)).mono ?_;rintro e w' ⟨hb,t2,a2,k2,c2,b2,m2,d2,rfl,HN⟩;exact⟨hb,t2,_,_,_,_,_,_,rfl,HN.out.1,HN.out.2.1.1,HN.out.2.1.2,by rw[HN.out.2.2];exact h2.2.2⟩
 clear hV hn hc hl Nz;generalize l.length=ll at *;go_enter Tryz.func3,Tryz.ntmps3;go_wp2_with fail;refine(Du.out w (Below.refl _ _)).mono ?_;rintro e w1 ⟨rfl,aC⟩;have aZ:Hid _:=aC;clear aC Du;go_wp2_with fail;refine(HOB.out w1).mono ?_;rintro e w2 ⟨rfl,aL⟩;have bA:Hid _:=aZ.out.trans (aL.mono aZ.out.size);clear aL HOB aZ;go_wp2_with fail;refine(LM.out w2 bA.out).mono ?_;rintro e w3 ⟨bY,t0,a,m,c,d,k,q,rfl,HN⟩;have cF:Hid _:=bA.out.trans (bY.mono bA.out.size);obtain⟨W4,nU⟩:∃W4,W4=w3.alloc (.cells #[J a m c,J d k q] 27):=⟨_,rfl⟩;have eV:Below w3.heap.size w3 W4:=by rw[nU];exact(Below.refl _ _).alloc (Ie _) _
 have gC:Hid _:=cF.out.trans (eV.mono cF.out.size);have LY:W4.heap[w3.heap.size]?=AI (.cells #[J a m c,J d k q] 27 (0,0)):=by rw[nU];exact Ij w3 _
 have Bc:W4.heap.size=w3.heap.size+1:=by rw[nU];simp
 have x0:=ae LY 0;have x1:=ae LY 1;have HC:=HRU.out W4 w3 t0 a m c d k q gC.out eV HN.out.1 HN.out.2;have Fa:Hid _:=LY;have LA:Hid _:=Bc;have aaj:Hid _:=eV;clear bY eV LY Bc LM bA HN HRU;go_upto_region 4 with fail
 rw[<- nU];clear nU;go_wp2_with fail;refine HC.mono ?_;rintro e w5 ⟨j9,t,a5,n5,c5,b5,m5,d5,rfl,Dv⟩;clear HC x0 x1;have mc:=(j9.block _ (BY.1 Fa.out).1).trans Fa.out;have g0:=ae mc 0;have g1:=ae mc 1;have f0:=aA mc 0;have f1:=aA mc 1;obtain⟨W6,rW⟩:∃W6,W6=aF w3.heap.size [J a5 n5 c5,J b5 m5 d5] 0 w5:=⟨_,rfl⟩;have HL6:Hid (∃q,Lo w3.heap.size w W6 t a5 n5 c5 b5 m5 d5 q):=by
  obtain⟨h1,h2,⟨qq,hq,hk⟩,h4⟩:=Dv.out;have Bc:=LA.out;have ho:Af w3.heap.size w5 t (J a5 n5 c5) (J b5 m5 d5):=by
   rcases h1 with h1|h1
   .exact Af.aeg h1 (aaj.out.trans (j9.mono aaj.out.size)) (Ie _)
   .exact Af.Ew h1 h2 (by omega)
  have hl:=ho.is.lens;have h20:=(Nt.aD h2.e).2.1;refine⟨qq,?_,?_,h2,hk,h4,by omega,?_⟩
  .show W6.heap[w3.heap.size]?=_
   rw[rW];exact bB [J a5 n5 c5,J b5 m5 d5] [] [J a m c,J d k q] mc rfl
  .rw[rW];exact ho.bar (qR.set _ _)
  .rw[rW];exact aU cF.out.size _ _ (gC.out.trans (j9.mono gC.out.size))
 have yd:Hid (w.heap.size<=w3.heap.size):=cF.out.size;clear j9 mc Dv Fa LA aaj gC cF;generalize w3.heap.size=gn at *;go_wp2_with fail;simp only[aF,ID] at rW;rw[<- rW];clear rW g0 g1 f0 f1;go_loopw [] (λwr=>∃(n c m d q:Nat) (a b:Option Addr) (t:Nt),Hid (Lo gn w wr t a n c b m d q)) (λwr=>yK gn wr)
 case atStart=>
  obtain⟨q,h⟩:=HL6.out;exact⟨n5,c5,m5,d5,q,a5,b5,t,h⟩
 case round=>
  clear HL6;obtain⟨n,c,m,d,q,a,b,t,HL⟩:=hrel;have hg:=HL.out.box;have x0:=ae hg 0;have x1:=ae hg 1;by_cases h0:m=0
  .subst h0
   have HC:=Ah t a b n c 0 d wr HL.out.off.is HL.out.right;clear hg;go_wp2_with fail;refine HC.mono ?_;rintro e w2 ⟨aL,pa,na,ca,rfl,HSA⟩;clear HC x0 x1;have jF:Hid (Ld gn w2 a n c b 0 d):=(aL.block _ (BY.1 HL.out.box).1).trans HL.out.box;have HOF:Hid (Af gn w2 t (J a n c) (J b 0 d)):=HL.out.off.bar (qR.of aL);have Cn:Hid (bE t/\(∃q,q<=60/\Kept q t)/\0<t.ns.length):=⟨HL.out.right,⟨q,by have:=HL.out.few;omega,HL.out.kept⟩,HL.out.pos⟩;have qp:Hid (Below w.heap.size w w2):=HL.out.below.trans (aL.mono HL.out.below.size);have tu:na=(lu t).length:=by
    obtain⟨p,r,e,_⟩:=HSA.out;simp only[Value.slice.injEq] at e;exact e.2.1
   have HNA:Hid _:=tu;clear tu aL HL;by_cases h40:na<=40
   .have hd:=decide_eq_false (p:=(40:Int)<(na:Int)) (by omega)
    have hnt:=HOF.out.is.lens;have AD:n<=6:=by rw[hnt.1];exact(Nt.aD Cn.out.1.e).1
    have uk:0<n:=by rw[hnt.1];exact Cn.out.2.2
    have x0:=ae jF.out 0;have aek:=EA n AD w2;obtain⟨W3,ee⟩:∃W3,W3=w2.alloc (.cells (List.replicate n (Value.bool false)).toArray 4):=⟨_,rfl⟩;have RS:(Instr.makeSlice 43 (U O (n:Int)) (U O (n:Int))).run AS w2=.ok (J (AI ⟨w2.heap.size,0,be⟩) n n) W3:=by rw[ee];exact aek
    have Aq:Hid (wG t n 0 w2.heap.size W3/\Below w2.heap.size w2 W3):=by
     rw[ee];exact⟨⟨_,Ij w2 _,by simp,λj hj=>⟨false,by simp[hj],λh=>by omega⟩⟩,(Below.refl _ _).alloc (Ie _) _⟩
    have VH:Hid (n=t.ns.length):=hnt.1;have N9:Hid (gn<w2.heap.size):=(BY.1 jF.out).1;have fm:Hid (0<n->∃b o,a=AI ⟨b,o,be⟩/\∀k,k<n->∃A,iX w2 (t.ns.getD k aM) A/\∀W,Below w2.heap.size w2 W->∀j,j<12->W.cell? ⟨b,o+k*12+j,be⟩=A[j]?):=HOF.out.is.ns.at2.2;clear ee aek hnt;go_upto_region 16 with fail
    clear x0 RS hd;generalize VY:w2.heap.size=gg at *;go_wp2_with fail;go_loopw [13] (λi wr=>∃k:Nat,k<=n/\i=U O k/\Hid (wG t n k gg wr/\Below gg w2 wr)) (λi _=>n-(intOf i).toNat)
    case atStart=>exact⟨0,IF _,rfl,Aq⟩
    case round=>
     clear Aq;obtain⟨k,hk,rfl,HR⟩:=hrel;subst VY;have x0:=ae ((HR.out.2.block _ N9.out).trans jF.out) 0;by_cases aX:k<n
     .have hd:=decide_eq_true (p:=(k:Int)<(n:Int)) (by omega)
      have fH:(k:Int)<(n:Int):=by omega
      obtain⟨b0,o0,e0,LK⟩:=fm.out uk;subst e0;obtain⟨A,hA,hC⟩:=LK k aX;clear LK fm;obtain⟨VA,t1a,VB,D2,Rj,p3a,k3a,c3a,VC,VD,VE,p5a,k5a,c5a,i6a,i7a,i8a,i9a,NP,NQ,NR,NT,rfl⟩:=hA.letters;have cY:(t.ns.getD k aM).name=VA:=by
       obtain⟨_,_,_,_,_,e,_⟩:=hA;have:=congrArg (λa:Array Value=>a[0]?) e;simpa[Ri,dE] using this.symm
      simp only[Ri] at hA hC;obtain⟨hsM,_,_⟩:=hA.three;obtain⟨hlM,HRM⟩:=rowAt hsM;have ie:k<t.ns.length:=by rw[<- VH.out];exact aX
      have he:=(Nt.aD Cn.out.1.e).2.2.1 _ (ai ie aM);obtain⟨q,hq,hqe,hM⟩:=B5 (Nd.parts (Nd.aD he).1).ms (lr Cn.out.1 ie).1;rw[cY] at hM;obtain⟨gb,ob,hpb,lH,hjb,hrb⟩:=HRM (by omega);subst hpb;obtain⟨_,s1,_,_,_⟩:=hrb q hq;rw[hqe] at s1;have a0:wr.cell? ⟨b0,o0+k*12,be⟩=AI (Y VA):=hC wr HR.out.2 0 (by omega);have Gz:Hid (∀W,Below w2.heap.size w2 W->W.cell? ⟨b0,o0+k*12+2,be⟩=AI (J (AI ⟨gb,ob,be⟩) D2 Rj)/\W.cell? ⟨gb,ob+q*5+1,be⟩=AI (U O (own t k).state)):=λW hW=>⟨hC W hW 2 (by omega),(hW.cell (p:=⟨gb,ob+q*5+1,be⟩) lH).trans s1⟩;have a2:=(Gz.out wr HR.out.2).1;have hMA:∀d os,Calls AS 11 #[J (AI ⟨gb,ob,be⟩) D2 Rj,Y VA] (Ig (Im wr d) os) λe fR=>e=AT (U O (q:Int))/\∃p:Regrown,fR=Ig (Im wr p.d) p.os:=λd os=>Calls.regrown_of (hM _ _ (hsM.below (HR.out.2.trans ((ON wr d os).mono HR.out.2.size))));have X0:=Ih x0;have A0:=Ih a0;have A2:=Ih a2;have HQ:Hid (q<D2):=by show _<_;omega
      have LD:Hid (k<n):=aX;clear hA hC hsM hlM HRM he hqe hM lH hjb hrb s1 cY ie aX;go_upto_region 19 with fail
      refine IA (by kernel_rfl) (by kernel_rfl) ?_;repeat(quiet_step (exact hMA _ _))
      refine bu λdq gW dF=>?_;have tQ:Hid (wG t n k w2.heap.size (Ig (Im wr dq) gW)/\Below w2.heap.size w2 (Ig (Im wr dq) gW)):=⟨Lf HR.out.1 dF.out,HR.out.2.trans (dF.out.mono HR.out.2.size)⟩;clear hMA X0 A0 A2 x0 a0 a2 dF HR;generalize Ig (Im wr dq) gW=W2 at *;obtain⟨a2,s1⟩:=Gz.out W2 tQ.out.2;have x0:=ae ((tQ.out.2.block _ N9.out).trans jF.out) 0;obtain⟨cs,h1,h2,h3⟩:=id tQ.out.1;obtain⟨x,e1,_⟩:=h3 k LD.out;have gk:W2.cell? ⟨w2.heap.size,k,be⟩=AI (Ia x):=(ae h1 k).trans e1;have fk:=aA h1 k;obtain⟨W5,iF⟩:∃W5,W5=W2.setCell ⟨w2.heap.size,k,be⟩ (Ia ((own t k).state==4)):=⟨_,rfl⟩;have HR5:Hid (wG t n (k+1) w2.heap.size W5/\Below w2.heap.size w2 W5):=by
       rw[iF];exact⟨TM tQ.out.1,tQ.out.2.setCell (p:=⟨w2.heap.size,k,be⟩) (Ie _) _⟩
      have hqi:(q:Int)<(D2:Int):=by have:=HQ.out;omega
      have hq0:decide ((0:Int)<=(q:Int))=true:=decide_eq_true (by omega);clear h1 h2 h3 e1 cs tQ Gz;generalize(own t k).state=st at *;go_wp2_with fail;rw[<- iF];clear iF a2 s1 x0 gk fk;go_roundw
      case rel=>exact⟨k+1,LD.out,by go_num,HR5⟩
      case measure=>simp[intOf];have:=LD.out;omega
     .have hd:=decide_eq_false (p:=(k:Int)<(n:Int)) (by omega)
      have eJ:k=n:=by omega
      have HG:Hid (wG t n n w2.heap.size wr):=by have:=HR.out.1;rw[eJ] at this;exact this
      have LK:Hid (EB gn wr t n 0 0 0 wr):=by
       obtain⟨qq,h1,h2⟩:=Cn.out.2.1;exact⟨t,a,c,b,d,(HR.out.2.block _ N9.out).trans jF.out,HOF.out.bar (qR.of HR.out.2),PJ Cn.out.1 (List.eq_nil_of_length_eq_zero HOF.out.is.lens.2.symm) h2 h1,qR.refl _ _⟩
      have HSV:Hid (Sv.Sl wr (J pa na ca) (lu t)):=HSA.out.below HR.out.2;have HNV:Hid (Ld gn wr a n c b 0 d):=(HR.out.2.block _ N9.out).trans jF.out;have nV:Hid (Below w.heap.size w wr):=qp.out.trans (HR.out.2.mono qp.out.size);have HGE:Hid (gn≠w2.heap.size):=by have:=N9.out;show _≠_;omega
      have HLG:Hid (w.heap.size<=gn/\(lu t).length<=40/\(nH t).length<=6):=by
       obtain⟨qq,h1,h2⟩:=Cn.out.2.1;exact⟨yd.out,by rw[<- HNA.out];exact h40,PH Cn.out.1 h2.X7⟩
      have HRI:Hid (bE t):=Cn.out.1;have Si:Hid (0<n/\n<=6):=⟨uk,AD⟩;clear HR jF HOF Cn HSA qp fm HNA uk eJ;generalize w2.heap.size=gg at *;obtain⟨V,rfl⟩:∃V:World,V=wr:=⟨_,rfl⟩;go_wp2_with fail;clear x0 hd;go_loopw [15] (λv wr=>∃T:Nat,T<=3/\v=U O T/\Hid (EB gn V t n T 0 0 wr)) (λv _=>3-(intOf v).toNat)
      case atStart=>exact⟨0,by omega,rfl,LK⟩
      case round=>
       clear LK;obtain⟨T,hT,rfl,HA⟩:=hrel;by_cases hT3:T<3
       .have hd:=decide_eq_true (p:=(T:Int)<3) (by omega)
        have HT:Hid (T<3):=hT3;clear hT;go_wp2_with fail;clear hd;obtain⟨V1,rfl⟩:∃V1:World,V1=wr:=⟨_,rfl⟩;go_loopw [16] (λv wr=>∃i:Nat,i<=n/\v=U O i/\Hid (EB gn V t n T i 0 wr)) (λv _=>n-(intOf v).toNat)
        case atStart=>exact⟨0,IF _,rfl,HA⟩
        case round=>
         clear HA;obtain⟨i,hi,rfl,HA⟩:=hrel;obtain⟨ax,cx,bx,dx,pQ⟩:=HA.out.len;have x0:=ae pQ 0;clear pQ;by_cases o5:i<n
         .have hd:=decide_eq_true (p:=(i:Int)<(n:Int)) (by omega)
          have HI:Hid (i<n):=o5;clear hi;go_wp2_with fail;clear hd x0;obtain⟨V2,rfl⟩:∃V2:World,V2=wr:=⟨_,rfl⟩;go_loopw [17] (λv wr=>∃k:Nat,k<=n/\v=U O k/\Hid (EB gn V t n T i k wr)) (λv _=>n-(intOf v).toNat)
          case atStart=>exact⟨0,IF _,rfl,HA⟩
          case round=>
           clear HA;obtain⟨k,hk,rfl,HA⟩:=hrel;by_cases eJ:k<n
           .have hd:=decide_eq_true (p:=(k:Int)<(n:Int)) (by omega)
            have HK:Hid (k<n):=eJ;obtain⟨t1,a',c',b',d',k0,hc1,Ca⟩:=TP HV.out nV.out HLG.out.1 HRI.out HLG.out.2.1 HLG.out.2.2 HT.out HI.out eJ HA.out;have x0:=ae k0 0;have x1:=ae k0 1;have T3:Hid (Calls _ _ _ _ _):=hc1;have Gv:Hid _:=Ca;clear k0 hc1 Ca hk HA;go_wp2_with fail;refine T3.out.mono ?_;rintro e w1 ⟨aC,a1,n1,c1,b1,m1,d1,rfl,hN1⟩;obtain⟨W2,bO,aL,-,ji⟩:=bV w1 #[J a1 n1 c1,J b1 m1 d1] 27;obtain⟨kb2,t2,BL,Ca⟩:=Gv.out w1 W2 a1 n1 c1 b1 m1 d1 aC hN1 aL;have Gz:Hid (Calls _ _ _ _ _):=BL;have SX:Hid _:=Ca;clear aC hN1 aL kb2 BL Ca T3 Gv x0 x1 hd;go_upto_region 31 with fail
            rw[<- bO];clear bO;generalize w1.heap.size=gx at *;have y0:=ae ji 0;have y1:=ae ji 1;clear ji;go_wp2_with fail;refine Gz.out.mono ?_;rintro e w3 ⟨bY,a2,n2,c2,b2,m2,d2,rfl,hN3⟩;obtain⟨W4,nU,eV,-,Sa⟩:=bV w3 #[J a2 n2 c2,J b2 m2 d2] 27;obtain⟨kb4,en,em,gF⟩:=SX.out w3 W4 a2 n2 c2 b2 m2 d2 bY hN3 eV;have en':=en.symm;clear en;subst en' em;obtain⟨W5,iF⟩:∃W5,W5=aF gn [J a2 n c2,J b2 0 d2] 0 W4:=⟨_,rfl⟩;have HA5:Hid _:=gF W5 iF;clear bY hN3 eV gF Gz SX y0 y1;go_upto_region 32 with fail
            rw[<- nU];clear nU;generalize w3.heap.size=gy at *;have y0:=ae Sa 0;have y1:=ae Sa 1;have g0:=ae kb4 0;have g1:=ae kb4 1;have f0:=aA kb4 0;have f1:=aA kb4 1;clear Sa kb4;have aP:((n:Int)!=(n:Int))=false:=by simp
            go_wp2_with fail;simp only[aF,ID] at iF;rw[<- iF];clear iF y0 y1 g0 g1 f0 f1 aP;go_roundw
            case rel=>exact⟨k+1,HK.out,by go_num,HA5⟩
            case measure=>simp[intOf];have:=HK.out;omega
           .have hd:=decide_eq_false (p:=(k:Int)<(n:Int)) (by omega)
            obtain⟨ax,cx,bx,dx,pQ⟩:=HA.out.len;have x0:=ae pQ 0;have SV:Hid _:=HA.out.row (by omega);clear pQ HA hk;go_wp2_with fail;go_roundw
            case rel=>exact⟨i+1,HI.out,by go_num,SV⟩
            case measure=>simp[intOf];have:=HI.out;omega
         .have hd:=decide_eq_false (p:=(i:Int)<(n:Int)) (by omega)
          have SV:Hid _:=HA.out.turn HRI.out (by omega);clear HA hi;go_wp2_with fail;go_roundw
          case rel=>exact⟨T+1,HT.out,by go_num,SV⟩
          case measure=>simp[intOf];have:=HT.out;omega
       .have hd:=decide_eq_false (p:=(T:Int)<3) (by omega)
        have hT':T=3:=by omega
        obtain⟨V3,rfl⟩:∃V3:World,V3=wr:=⟨_,rfl⟩;obtain⟨t3,a3,c3,b3,d3,bY,lA,EC,Gd⟩:EB gn V t n 3 0 0 V3:=by have:=HA.out;rw[hT'] at this;exact this
        obtain⟨f1,f2,f3⟩:=aaa EC;have hl3:=lA.is.lens;have uk:=Si.out.1;have hBW:Below w.heap.size w V3:=nV.out.trans (Gd.below HLG.out.1 nV.out.size);have aep:Hid (Calls _ _ _ _ _):=Lc t3 _ _ false V3 (HV.out.after hBW) lA.is EC.right.short EC.right.e (λ_=>⟨λh=>(by cases h),λ⟨j,hj,aP⟩=>(aP ⟨f1 j 0 hj (by omega),by rw[(f2 j hj).1,(f2 0 (by omega)).1],by rw[(f2 j hj).2,(f2 0 (by omega)).2]⟩).elim⟩);have Bo:Hid (t3.e=0):=EC.right.e;have cF:Hid (Ld gn V3 a3 n c3 b3 0 d3):=bY;have og:Hid (Below w.heap.size w V3):=hBW;obtain⟨b0,o0,e0,LK⟩:=lA.is.ns.at2.2 uk;subst e0;obtain⟨A,hA,hC⟩:=LK 0 uk;obtain⟨VA,t1a,VB,D2,Rj,p3a,k3a,c3a,VC,VD,VE,p5a,k5a,c5a,i6a,i7a,i8a,i9a,NP,NQ,NR,NT,rfl⟩:=hA.letters;simp only[Ri] at hA hC;obtain⟨hsM,hsS,_⟩:=hA.three;obtain⟨hlM,HRM⟩:=rowAt hsM;have HZ:Hid (∀W,Below V3.heap.size V3 W->W.cell? ⟨b0,o0+2,be⟩=AI (J VB D2 Rj)/\W.cell? ⟨b0,o0+4,be⟩=AI (J VC VD VE)):=λW hW=>⟨by have:=hC W hW 2 (by omega);simpa using this,by have:=hC W hW 4 (by omega);simpa using this⟩;have LZ:Hid (∀W,Below V3.heap.size V3 W->Calls AS 13 #[J VC VD VE,J pa na ca] W λe w'=>e=AT (Ia true)/\Below W.heap.size W w'):=λW hW=>by
         have h2:=(f2 0 (by omega)).1;have h40:=HLG.out.2.1;refine(Sv.MX (t3.ns.getD 0 aM).sv (lu t) _ _ W (hsS.below hW) ((aag HSV.out HNV.out Gd).below hW) (by rw[h2];omega)).mono ?_;rintro e w' ⟨r,rfl,hr,hb⟩;rw[hr.2 h2];exact⟨rfl,hb⟩
        have HI6:Hid (∀i,i<n->∃(nm:ByteArray) (q gb ob:Nat) (st:Int) (x:Bool),q<D2/\VB=AI ⟨gb,ob,be⟩/\(∀W,Below V3.heap.size V3 W->W.cell? ⟨b0,o0+i*12,be⟩=AI (Y nm)/\W.cell? ⟨gb,ob+q*5+1,be⟩=AI (U O st)/\W.cell? ⟨gg,i,be⟩=AI (Ia x)/\Calls AS 11 #[J VB D2 Rj,Y nm] W λe w'=>e=AT (U O (q:Int))/\Below W.heap.size W w')/\(x=true/\st=4\/x=false/\st=1)):=λi hi=>by
         obtain⟨u,u1,u2,u3⟩:=f3 i (by omega);have he:=(Nt.aD EC.right.e).2.2.1 _ (ai (show 0<t3.ns.length by omega) aM);obtain⟨q,hq,hqe,hM⟩:=B5 (Nd.parts (Nd.aD he).1).ms (u1 0 (by omega));obtain⟨gb,ob,hpb,lH,hjb,hrb⟩:=HRM (by omega);obtain⟨_,s1,_,_,_⟩:=hrb q hq;rw[hqe] at s1;obtain⟨A',hA',hC'⟩:=LK i hi;obtain⟨t0b,t1b,p2b,k2b,c2b,p3b,k3b,c3b,p4b,k4b,c4b,p5b,k5b,c5b,i6b,i7b,i8b,i9b,XC,XD,XE,XF,rfl⟩:=hA'.letters;have cY:(t.ns.getD i aM).name=t0b:=by
          rw[<- EC.nm i];obtain⟨_,_,_,_,_,e,_⟩:=hA';have:=congrArg (λa:Array Value=>a[0]?) e;simpa[Ri,dE] using this.symm
         rw[cY] at hM;obtain⟨cs,g1,g2,g3⟩:=TO HG.out Gd (λe=>HGE.out e.symm);obtain⟨x,x1,x2⟩:=g3 i hi;have dv:=(BY.1 g1).1;refine⟨t0b,q,gb,ob,u.state,x,by omega,hpb,λW hW=>⟨hC' W hW 0 (by omega),(hW.cell (p:=⟨gb,ob+q*5+1,be⟩) lH).trans s1,(hW.cell (p:=⟨gg,i,be⟩) dv).trans ((ae g1 i).trans x1),hM _ _ (hsM.below hW)⟩,?_⟩;have hx:=x2 hi;rcases u3 with h|h
         .exact .inl ⟨by rw[hx];simpa using u2.1 h,h⟩
         .refine .inr ⟨?_,h⟩
          rw[hx];simp only[beq_eq_false_iff_ne];intro h4;have:=u2.2 h4;omega
        have x0:=ae bY 0;have x1:=ae bY 1;have ard:(0:Int)<(n:Int):=by omega
        clear bY lA EC Gd f1 f2 f3 hl3 hBW LK hA hC hsM hsS hlM HRM HA HSV HNV HG hT' nV HRI;go_wp2_with fail;refine aep.out.mono ?_;intro e w1 hs;obtain⟨⟨_,rfl⟩|⟨h,_⟩,aC⟩:=hs;rotate_left
        .exact absurd Bo.out h
        have aZ:Hid (Below V3.heap.size V3 w1):=aC;have g0:w1.cell? ⟨gn,0,be⟩=AI (J (AI ⟨b0,o0,be⟩) n c3):=ae ((aC.block _ (BY.1 cF.out).1).trans cF.out) 0;have z4:=(HZ.out w1 aC).2;have aeq:Hid (Calls _ _ _ _ _):=LZ.out w1 aC;clear x0 x1 aC aep Bo LZ hd;go_wp2_with fail;refine aeq.out.mono ?_;rintro e w2' ⟨rfl,aL⟩;have bA:Hid (Below V3.heap.size V3 w2'):=aZ.out.trans (aL.mono aZ.out.size);clear aL g0 z4 aeq aZ;go_wp2_with fail;go_loopw [23] (λi wr=>∃k:Nat,k<=n/\i=U O k/\Hid (Below V3.heap.size V3 wr)) (λi _=>n-(intOf i).toNat)
        case atStart=>exact⟨0,IF _,rfl,bA⟩
        case round=>
         clear bA;obtain⟨k,hk,rfl,HR⟩:=hrel;have Fw:=(HR.out.block _ (BY.1 cF.out).1).trans cF.out;have x0:=ae Fw 0;clear Fw;by_cases aX:k<n
         .have hd:=decide_eq_true (p:=(k:Int)<(n:Int)) (by omega)
          have fH:(k:Int)<(n:Int):=by omega
          obtain⟨nm,q,gb,ob,st,x,hq,hp,hW,pK⟩:=HI6.out k aX;subst hp;obtain⟨a0,_,_,_⟩:=hW wr HR.out;have z2:=(HZ.out wr HR.out).1;have HW:Hid _:=hW;have hMA:∀d os,Calls AS 11 #[J (AI ⟨gb,ob,be⟩) D2 Rj,Y nm] (Ig (Im wr d) os) λe fR=>e=AT (U O (q:Int))/\∃p:Regrown,fR=Ig (Im wr p.d) p.os:=λd os=>Calls.regrown_of (hW _ (HR.out.trans ((ON wr d os).mono HR.out.size))).2.2.2;have X0:=Ih x0;have A0:=Ih a0;have Z2:=Ih z2;have HQ:Hid (q<D2):=hq;have LD:Hid (k<n):=aX;clear hW hq;go_upto_region 41 with fail
          refine IA (by kernel_rfl) (by kernel_rfl) ?_;repeat(quiet_step (exact hMA _ _))
          refine bu λdq gW dF=>?_;have tQ:Hid (Below V3.heap.size V3 (Ig (Im wr dq) gW)):=HR.out.trans (dF.out.mono HR.out.size);clear hMA X0 A0 Z2 x0 a0 z2 dF HR;generalize Ig (Im wr dq) gW=W2 at *;obtain⟨_,s1,gx,_⟩:=HW.out W2 tQ.out;have x0:=ae ((tQ.out.block _ (BY.1 cF.out).1).trans cF.out) 0;have z2:=(HZ.out W2 tQ.out).1;have hqi:(q:Int)<(D2:Int):=by have:=HQ.out;omega
          have hq0:decide ((q:Int)<0)=false:=decide_eq_false (by omega);have hq1:¬ (q:Int)<0:=by omega
          clear HW;rcases pK with⟨rfl,rfl⟩|⟨rfl,rfl⟩
          .go_wp2_with fail
           go_quiet (fail)
           go_wp2_with fail;go_roundw
           case rel=>exact⟨k+1,LD.out,by go_num,below_drewN tQ.out _⟩
           case measure=>simp[intOf];have:=LD.out;omega
          .go_wp2_with fail
           go_quiet (fail)
           go_wp2_with fail;go_roundw
           case rel=>exact⟨k+1,LD.out,by go_num,below_drewN tQ.out _⟩
           case measure=>simp[intOf];have:=LD.out;omega
         .have hd:=decide_eq_false (p:=(k:Int)<(n:Int)) (by omega)
          have HF:Hid (Below w.heap.size w wr):=og.out.trans (HR.out.mono og.out.size);clear HR HI6 HZ;go_wp2_with fail;go_ret;exact⟨rfl,HF.out⟩
   .have hd:=decide_eq_true (p:=(40:Int)<(na:Int)) (by omega)
    clear HSA jF HOF Cn HNA;go_wp2_with fail;go_ret;exact⟨rfl,qp.out⟩
  .have hd:0<m:=by omega
   have HM0:Hid (m≠0):=h0;have HC:Calls AS 9 #[.agg #[J a n c,J b m d],.agg #[U O 4,U O 0,U O 0,U O 0,Y ⟨#[]⟩,U O 0,U O 0,U O 0,U O 0,U O 0,Y ⟨#[]⟩,Y ⟨#[]⟩,Y ⟨#[]⟩,Y ⟨#[]⟩,U O 0,U O 0,Ia false,U O 0,Ia false]] wr (lp wr ⟨t.ns,t.ls.eraseIdx 0⟩):=K6 t _ _ (evP 4 0 0) wr 0 (HV.out.after HL.out.below) HL.out.off.is HL.out.right rfl rfl (by have:=HL.out.off.is.lens;omega);have HLW:Hid (yK gn wr=m):=B8 hg;clear hg h0;go_wp2_with fail;refine HC.mono ?_;rintro e w1 ⟨aC,a1,n1,c1,b1,m1,d1,rfl,hN1⟩;clear HC x0 x1;obtain⟨W2,bO,aL,-,ji⟩:=bV w1 #[J a1 n1 c1,J b1 m1 d1] 27;obtain⟨W3,ee⟩:∃W3,W3=aF gn [J a1 n1 c1,J b1 m1 d1] 0 W2:=⟨_,rfl⟩;have hLN:=HL.out.next yd.out HM0.out aC hN1 aL ee;have T0:Hid _:=hLN.1;have pM:Hid _:=hLN.2;have dO:=(aL.block gn (Nat.lt_of_lt_of_le (BY.1 HL.out.box).1 aC.size)).trans ((aC.block gn (BY.1 HL.out.box).1).trans HL.out.box);have ake:Hid (yK gn W3<yK gn wr):=by
    have:=HLW.out;have h2:=B8 pM.out.box;have h3:=HM0.out;have h4:=T0.out;show _<_;omega
   clear hLN aC hN1 aL HL HLW;go_upto_region 9 with fail
   rw[<- bO];clear bO;generalize w1.heap.size=gx at *;have y0:=ae ji 0;have y1:=ae ji 1;have g0:=ae dO 0;have g1:=ae dO 1;have f0:=aA dO 0;have f1:=aA dO 1;clear dO ji;have hd2:decide ((m:Int)<=(m1:Int))=false:=decide_eq_false (by have:=HM0.out;have:=T0.out;omega);have hd3:¬ m<=m1:=by have:=HM0.out;have:=T0.out;omega
   go_wp2_with fail;simp only[aF,ID] at ee;rw[<- ee];clear ee y0 y1 g0 g1 f0 f1;go_roundw
   case rel=>exact⟨n1,c1,m1,d1,q+1,a1,b1,_,pM⟩
   case measure=>exact ake.out
end Go.Proofs.YtbfghimjdlpicaaGreatDoor
