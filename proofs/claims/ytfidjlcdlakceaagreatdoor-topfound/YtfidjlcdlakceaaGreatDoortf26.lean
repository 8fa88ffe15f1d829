import Derived.Test.YtfidjlcdlakceaaGreatDoortf4
import Derived.Lib.SmallJoins
set_option maxHeartbeats 4000000
set_option maxRecDepth 100000
open Go.Value renaming slice→U,func→IZ,int→O,string→I,agg→Im,tuple→Il,bool→AI
open Option renaming none→Y,some→Z
open Go.Ending renaming returned→sh
open Go.Proofs.Tryz renaming prog→be
open Go.IntKind renaming i64→J
open Go.RowKit.Below renaming refl→Ib
open Nat renaming zero_le→II,le_refl→By,lt_of_lt_of_le→Iv
open Go.Obj renaming cells→AT
open Go renaming heap_alloc_new→Ie,redrawn→IA,maxLen→Ij,bodyPost_ret→Ix
open Go.Sort renaming grow→Ip
namespace Go.Proofs.YtfidjlcdlakceaaGreatDoor
namespace Gw
open Go.RowKit
theorem oU{a b:List cD}(oV:a.length<=6)(rB:b.length<=6)(k:Nat):(eK a b k).length<=12:=by
 unfold eK;split
 .simp
 .split
  .omega
  .have:=dY b a;omega
structure MB(w:World)(pb:Nat)(a b:List cD)(k:Nat)(l:List cD)(pk:Option Addr)(ck:Nat):Prop where
 cell:w.cell? ⟨pb,k,Y⟩=Z (U pk l.length ck)
 row:l=[]\/∃b off,pk=Z ⟨b,off,Y⟩/\b<w.heap.size/\Row w b off l
 Td:∀m∈l,(m).ok
 len:l.length<=6
 MC:(eK a b k).length<=6
 Aa:bO (eK a b k)
 MD:∀m∈eK a b k,(m).ok
 step:eK a b (k+1)=ay (eK a b k) l
theorem tv{a b:List cD}{va vb:Value}{pb:Nat}{w:World}(ha:Sl w va a)(hb:Sl w vb b)(hc0:w.cell? ⟨pb,0,Y⟩=Z va)(hc1:w.cell? ⟨pb,1,Y⟩=Z vb)(oV:a.length<=6)(rB:b.length<=6)(ra:bO a)(k:Nat)(hk:k<2) :
 ∃l pk ck,MB w pb a b k l pk ck:=by
 obtain⟨pa,ca,rfl,Wo,ha⟩:=ha;obtain⟨pv,cb,rfl,nsb,hb⟩:=hb;have gP:k=0\/k=1:=by omega
 rcases gP with rfl|rfl
 .exact⟨a,pa,ca,hc0,ha,cZ Wo,oV,by simp[eK],by simp[eK],by simp[eK],(j9 a ra).symm⟩
 .exact⟨b,pv,cb,hc1,hb,cZ nsb,rB,oV,ra,cZ Wo,rfl⟩
theorem kd(a b:List cD)(va vb:Value)(pb cap:Nat)(w:World)(ha:Sl w va a)(hb:Sl w vb b)(hpb:pb<w.heap.size)(hc0:w.cell? ⟨pb,0,Y⟩=Z va)(hc1:w.cell? ⟨pb,1,Y⟩=Z vb)(oV:a.length<=6)(rB:b.length<=6)(ra:bO a) :
 Calls be 209 #[IZ (.func 185) #[] #[],IZ (.func 210) #[] #[],U (Z ⟨pb,0,Y⟩) 2 cap] w λe w'=>∃v',e=sh v'/\Own w.heap.size w' v' (ay a b)/\Below w.heap.size w w':=by
 have HK:Hid (∀k,k<2->∃l pk ck,MB w pb a b k l pk ck):=λk hk=>tv ha hb hc0 hc1 oV rB ra k hk;have HL2:Hid (∀k,(eK a b k).length<=12):=oU oV rB;clear ha hb hc0 hc1 oV rB ra;go_enter Tryz.func209,Tryz.ntmps209;go_wp2_with fail;go_loopw [7,16] (λkn i w'=>∃k:Nat,k<=2/\i=O J k/\Below w.heap.size w w'/\Hid (Own w.heap.size w' kn (eK a b k))) (λ_ i _=>2-(intOf i).toNat)
 case atStart=>exact⟨0,by omega,rfl,Ib _ _,bj _ _⟩
 case round=>
  obtain⟨k,hk,rfl,aU,HO⟩:=hrel;obtain⟨eA,nO⟩:=cH aU;have bA:=aU.size;by_cases sg:k<2
  .obtain⟨l,pk,ck,tz⟩:=HK.out k sg
   have tA:Hid (MB w pb a b k l pk ck):=tz;have ej:=tz.cell;clear tz;generalize L5:l.length=nl at *;have yk:Hid (l.length=nl):=L5;clear L5;have Wp:nl<=6:=by have:=tA.out.len;have:=yk.out;omega
   have acq:(k:Int)<2:=by omega
   go_wp2_with fail;go_loopw [7,22] (λkn j w'=>∃q:Nat,q<=nl/\j=O J q/\Below w.heap.size w w'/\Hid (Own w.heap.size w' kn (ay (eK a b k) (l.take q)))) (λ_ j _=>nl-(intOf j).toNat)
   case atStart=>exact⟨0,II _,rfl,aU,HO⟩
   case round=>
    clear eA nO bA aU HO ej;obtain⟨q,hq,rfl,aU,HO⟩:=hrel;obtain⟨eA,nO⟩:=cH aU;have bA:=aU.size;by_cases aL:q<nl
    .obtain⟨b2,off,ME,Gk,dL⟩:∃CI off,pk=Z ⟨CI,off,Y⟩/\CI<w.heap.size/\Row w CI off l:=by
      rcases tA.out.row with h|h
      .have:=yk.out;rw[h] at this;simp at this;omega
      .exact h
     subst ME;obtain⟨c0,c1,c2⟩:=dL q (by rw[yk.out];exact aL);clear dL;have HJ:Hid (ay (eK a b k) (l.take (q+1))=aZ (ay (eK a b k) (l.take q)) (l.getD q dm)):=jb (eK a b k) l q (by rw[yk.out];exact aL);have HR:Hid (bO (ay (eK a b k) (l.take q))):=gQ _ _ tA.out.Aa;have XG:Hid (∀j,((ay (eK a b k) (l.take q)).getD j dm).ok):=cB (jR _ _ tA.out.MD (λx hx=>tA.out.Td x (List.mem_of_mem_take hx)));have HL:Hid ((ay (eK a b k) (l.take q)).length<=12):=by
      have h1:=dY (l.take q) (eK a b k);have h2:(l.take q).length<=q:=List.length_take_le _ _;have h3:=tA.out.MC;show(ay (eK a b k) (l.take q)).length<=12;omega
     generalize l.getD q dm=m at *;generalize ay (eK a b k) (l.take q)=known at *;have MF:known.length<=12:=HL.out;obtain⟨W1,e9,al,gI,bb⟩:=cR wr #[I m.ai,O J m.addr,O J m.version] 49;have j7:Hid (Own w.heap.size W1 u7 known):=HO.out.below al;have HF:Hid (Calls be 189 #[u7,Im #[I m.ai,O J m.addr,O J m.version],IZ (.func 185) #[] #[]] W1 λe w'=>∃(p:Nat) (f:Bool),e=sh (Il #[O J p,AI f])/\Below W1.heap.size W1 w'/\At known m p f):=
      fH known u7 m W1 (j7.out.sl XG.out) HL.out HR.out
     have aR:Hid (Below w.heap.size w W1):=aU.trans (al.mono bA);have HT:Hid (As W1 wr.heap.size 0 m):=⟨af bb 0,af bb 1,af bb 2⟩;have rC:Hid _:=e9;have Gl:w.heap.size<=W1.heap.size:=by omega
     clear bb al HO HL HR e9;go_wp2_with fail;rw[<- rC.out];refine HF.out.mono ?_;rintro e w2 ⟨p,f,rfl,aC,cA⟩;have fw:Hid _:=cA;have acr:=cA.le;have CJ:=aC.size;have gv:Hid (Own _ _ _ _):=j7.out.below aC;have bw:Hid _:=aR.out.trans (aC.mono Gl);have si:Hid (As w2 wr.heap.size 0 m):=HT.out.eq (λo=>aC.cell (p:=⟨wr.heap.size,o,Y⟩) (by show wr.heap.size<W1.heap.size;omega));obtain⟨t0,t1,t2⟩:w2.cell? ⟨wr.heap.size,0,Y⟩=Z (I m.ai)/\w2.cell? ⟨wr.heap.size,1,Y⟩=Z (O J m.addr)/\w2.cell? ⟨wr.heap.size,2,Y⟩=Z (O J m.version):=si.out;have iZ:w.heap.size<=w2.heap.size:=by omega
     have MG:wr.heap.size<w2.heap.size:=by omega
     clear cA HF eA nO c0 c1 c2 aC j7 aR HT;cases f
     .have bu:Hid (u7.ownBlock≠Z w2.heap.size):=λe=>by have:=gv.out.lt _ e;omega
      have eB:Hid (Own w.heap.size (w2.alloc (AT #[I m.ai,O J m.addr,O J m.version] 49)) u7 known):=gv.out.below ((Ib _ _).alloc (By _) _);have qa:Hid ((w2.alloc (AT #[I m.ai,O J m.addr,O J m.version] 49)).heap[w2.heap.size]?=Z (AT m.cs.toArray 49 (0,0))):=Ie w2 _;go_wp2_with (go_at_call 250;refine(fQ w.heap.size p w2.heap.size u7 known m _ eB.out fw.out.le (by omega) (by simp;omega) qa.out bu.out).mono ?_;rintro e w4 ⟨v',rfl,g1,g2⟩);go_roundw
      case rel=>
       have kW:∃tB:Nat,tB<=nl/\Value.int J ((q:Int)+1)=O J tB/\Below w.heap.size w w4/\Hid (Own w.heap.size w4 v' (ay (eK a b k) (l.take tB))):=⟨q+1,by omega,by go_num,below_grown (bw.out.alloc iZ _) eB.out g2 (by simp;omega),by rw[HJ.out,dM known m p false fw.out];exact g1⟩;first|exact kW|((repeat apply Exists.intro);exact⟨kW,rfl⟩)
      case measure=>simp[intOf];omega
     .have hp:p<known.length:=(fw.out.is.1 rfl).1
      obtain⟨g,c,hu⟩:=eL gv.out p hp;subst hu;have F:=(dH gv.out p hp).re;have jZ:=gv.out.lt g rfl;have XH:g<w2.heap.size:=jZ.2;generalize hm:known.getD p dm=m2 at *;have Hm:Hid _:=hm;clear hm;have hN:∀d os,Calls be 210 #[Im #[I m.ai,O J m.addr,O J m.version],Im #[I m2.ai,O J m2.addr,O J m2.version]] (Ip (IA w2 d) os) λe gO=>e=sh (AI (cP m m2))/\∃p:Regrown,gO=Ip (IA w2 p.d) p.os:=λd os=>Calls.regrown_of (ja m m2 _);have G:=si.out.re;simp only[As,Nat.zero_add] at F G;have gF:∀o,w2.frozen? ⟨g,o,Y⟩=false:=λo=>World.ownsRow.frozenAt gv.out o;have HFZ:Hid _:=gF;clear gF t0 t1 t2;generalize L6:cP m m2=nw at *;have Wq:Hid _:=L6;clear L6;go_wp2_with fail;refine wp_region_quiet_below (by kernel_rfl) (by kernel_rfl) ?_;repeat(quiet_step (exact hN _ _))
      refine bK λdq j8 eR=>?_;clear hN F G;cases nw
      .go_wp2_with fail
       go_roundw
       case rel=>
        have kW:∃tB:Nat,tB<=nl/\Value.int J ((q:Int)+1)=O J tB/\Below w.heap.size w (Ip (IA w2 dq) j8)/\Hid (Own w.heap.size (Ip (IA w2 dq) j8) (U (Z ⟨g,0,Y⟩) known.length c) (ay (eK a b k) (l.take tB))):=⟨q+1,by omega,by go_num,bw.out.trans (eR.out.mono iZ),by rw[HJ.out,dM known m p true fw.out,if_pos rfl,Hm.out,if_neg (λh=>Bool.false_ne_true (Wq.out.symm.trans h))];exact gv.out.below eR.out⟩;first|exact kW|((repeat apply Exists.intro);exact⟨kW,rfl⟩)
       case measure=>simp[intOf];omega
      .generalize Ip (IA w2 dq) j8=w3 at *
       have eB:Hid (Own _ _ _ _):=gv.out.below eR.out;obtain⟨c0,c1,c2⟩:=dH eB.out p hp;rw[Hm.out] at c0 c1 c2;have vt:=(eB.out.lt g rfl).2;have gF:∀o,w3.frozen? ⟨g,o,Y⟩=false:=λo=>World.ownsRow.frozenAt eB.out o;obtain⟨s0,s1,s2⟩:w3.cell? ⟨wr.heap.size,0,Y⟩=Z (I m.ai)/\w3.cell? ⟨wr.heap.size,1,Y⟩=Z (O J m.addr)/\w3.cell? ⟨wr.heap.size,2,Y⟩=Z (O J m.version):=si.out.eq (λo=>eR.out.cell (p:=⟨wr.heap.size,o,Y⟩) MG);go_wp2_with fail;refine⟨⟨q+1,by omega,by go_num,?_,?_⟩,by simp[intOf];omega⟩
       .exact((((bw.out.trans (eR.out.mono iZ)).setCell (p:=⟨g,p*3,Y⟩) jZ.1 (I m.ai)).setCell (p:=⟨g,p*3+1,Y⟩) jZ.1 (O J m.addr)).setCell (p:=⟨g,p*3+2,Y⟩) jZ.1 (O J m.version))
       .rw[HJ.out,dM known m p true fw.out,if_pos rfl,Hm.out,if_pos Wq.out]
        exact oW eB.out hp m
    .have MA:q=nl:=by omega
     subst MA;have eB:Hid (Own w.heap.size wr u7 (eK a b (k+1))):=by
      have h:=HO.out;rw[List.take_of_length_le (by rw[yk.out];exact By _)] at h;rw[tA.out.step];exact h
     go_wp2_with fail;go_roundw
     case rel=>exact⟨k+1,by omega,by go_num,aU,eB⟩
     case measure=>simp[intOf];omega
  .have Wr:k=2:=by omega
   subst Wr;go_wp2_with fail;go_ret;exact⟨_,rfl,HO.out,aU⟩
end Gw
namespace Gw
open Go.RowKit
theorem fI(m:cD)(w:World)(hm:m.ok) :
 Calls be 183 #[Im #[I m.ai,O J m.addr,O J m.version]] w λe w'=>e=sh (O J m.e)/\Below w.heap.size w w':=by
 have hs:m.ai.size<=Ij:=hm;have hB:Hid (Below w.heap.size w (w.alloc (AT #[I m.ai,O J m.addr,O J m.version] 49))):=(Ib _ _).alloc (By _) _;clear hm;rcases h1:aN m.ai with _|_
 .go_enter Tryz.func183,Tryz.ntmps183
  go_wp2_with (go_at_call 65;refine(bc _ _ hs).mono ?_;rintro e w' ⟨rfl,rfl⟩;rw[h1]);go_ret;exact⟨aj (by simp[cD.e,h1]),hB.out⟩
 .rcases h2:within m.addr 0 4294967295 with _|_
  .go_enter Tryz.func183,Tryz.ntmps183
   go_wp2_with (first|(go_at_call 65;refine(bc _ _ hs).mono ?_;rintro e w' ⟨rfl,rfl⟩;rw[h1])|(go_at_call 44;refine(ea _ _).mono ?_;rintro e w' ⟨rfl,rfl⟩;rw[h2]));go_ret;exact⟨aj (by simp[cD.e,h1,h2]),hB.out⟩
  .rcases h3:within m.version 1 1000000 with _|_
   all_goals
    go_enter Tryz.func183,Tryz.ntmps183;go_wp2_with (first|(go_at_call 65;refine(bc _ _ hs).mono ?_;rintro e w' ⟨rfl,rfl⟩;rw[h1])|(go_at_call 44;refine(ea _ _).mono ?_;rintro e w' ⟨rfl,rfl⟩;rw[h2])|(go_at_call 70;refine(bD _ _ _ _).mono ?_;rintro e w' ⟨rfl,rfl⟩;rw[h3]));go_ret;exact⟨aj (by simp[cD.e,h1,h2,h3]),hB.out⟩
theorem gR(ms:List cD)(b off cap:Nat)(w:World)(hr:Row w b off ms)(hb:b<w.heap.size)(hn:ms.length<=6)(hs:∀j,(ms.getD j dm).ok) :
 Calls be 130 #[U (Z ⟨b,off,Y⟩) ms.length cap] w λe w'=>e=sh (O J (ba ms))/\Below w.heap.size w w':=by
 have HR:Hid (Row w b off ms):=hr;have HE:Hid (∀k,k<ms.length->(∀j,j<k->(ms.getD j dm).e=0)->(ms.getD k dm).e≠0->ba ms=(ms.getD k dm).e):=λk h1 h2 h3=>tC ms k hn h1 h2 h3;have H4:Hid ((∀j,j<ms.length->(ms.getD j dm).e=0)->ba ms=if aE ms=true then 0 else 4):=λh1=>rD ms hn h1;have MH:Hid (∀w',Below w.heap.size w w'->Calls _ _ _ _ _):=λw' rE=>iT ms b off cap w' (hr.later rE hb) (Iv hb rE.size) hn;clear hr;generalize hN:ms.length=n at *;have HN:Hid _:=hN;clear hN;have HS:Hid _:=hs;clear hs;generalize hC:ba ms=res at *;have HC:Hid _:=hC;clear hC;generalize MI:aE ms=rb at *;have XI:Hid _:=MI;clear MI;go_enter Tryz.func130,Tryz.ntmps130;go_wp2_with fail;go_loopw [11] (λi w'=>∃k:Nat,k<=n/\i=O J k/\Below w.heap.size w w'/\Hid (∀j,j<k->(ms.getD j dm).e=0)) (λi _=>n-(intOf i).toNat)
 case atStart=>exact⟨0,II _,rfl,Ib _ _,λj h=>absurd h (Nat.not_lt_zero _)⟩
 case round=>
  obtain⟨k,hk,rfl,aU,hz⟩:=hrel;obtain⟨eA,nO⟩:=cH aU;have bA:=aU.size;by_cases aL:k<n
  .obtain⟨c0,c1,c2⟩:=HR.out k (by rw[HN.out];exact aL)
   have Sj:Hid _:=HS.out k;have HK:Hid ((ms.getD k dm).e≠0->res=(ms.getD k dm).e):=λh=>HE.out k aL hz.out h;have HZ:Hid ((ms.getD k dm).e=0->∀j,j<k+1->(ms.getD j dm).e=0):=λh j hj=>by
    rcases Nat.lt_succ_iff_lt_or_eq.1 hj with h2|rfl
    .exact hz.out j h2
    .exact h
   generalize ms.getD k dm=m at *;have HO:Hid (∀w,Calls _ _ _ _ _):=λw=>fI m w Sj.out;generalize m.e=me at *;rcases he:decide (me=0) with _|_
   .have ki:(me !=0)=true:=by simpa using he
    clear he;go_wp2_with (go_at_call 183;refine(HO.out _).mono ?_;rintro e w' ⟨rfl,aC⟩);go_ret;have bu:me≠0:=by simpa using ki
    have lF:=HK.out bu;exact⟨aj lF.symm,(aU.alloc bA _).trans (aC.mono (by simp;omega))⟩
   .have ki:(me !=0)=false:=by simpa using he
    clear he;go_wp2_with (go_at_call 183;refine(HO.out _).mono ?_;rintro e w' ⟨rfl,aC⟩);go_roundw
    case rel=>
     have Ws:me=0:=by simpa using ki
     exact⟨k+1,by omega,by go_num,(aU.alloc bA _).trans (aC.mono (by simp;omega)),HZ.out Ws⟩
    case measure=>simp[intOf];omega
  .have iC:Hid (∀j,j<n->(ms.getD j dm).e=0):=λj hj=>hz.out j (by omega)
   have oh:Hid _:=H4.out iC.out;clear hz iC H4 HE HC XI;cases rb
   .go_wp2_with (go_at_call 184;refine(MH.out _ aU).mono ?_;rintro e w' ⟨rfl,aC⟩)
    go_ret;exact⟨aj (by rw[oh.out];rfl),aU.trans (aC.mono bA)⟩
   .go_wp2_with (go_at_call 184;refine(MH.out _ aU).mono ?_;rintro e w' ⟨rfl,aC⟩)
    go_ret;exact⟨aj (by rw[oh.out];rfl),aU.trans (aC.mono bA)⟩
theorem fR(a:Option Addr)(n cap:Nat)(w:World)(hn:6<n) :
 Calls be 130 #[U a n cap] w λe w'=>e=sh (O J 2)/\w'=w:=by
 go_enter Tryz.func130,Tryz.ntmps130;go_wp2_with fail;go_ret;exact⟨rfl,rfl⟩
theorem fS(a:Option Addr)(cap:Nat)(w:World) :
 Calls be 130 #[U a 0 cap] w λe w'=>e=sh (O J 0)/\w'=w:=by
 go_enter Tryz.func130,Tryz.ntmps130;go_wp2_with fail;go_loop [11] (λi=>i=O J 0) (λ_=>0)
 case atStart=>rfl
 case round=>
  subst hrel;go_wp2_with (go_at_call 184;refine(fO _ _ _ _).mono ?_;rintro e w' ⟨rfl,rfl⟩);go_ret;exact⟨rfl,rfl⟩
theorem aW(ms:List cD)(v:Value)(w:World)(h:Sl w v ms) :
 Calls be 130 #[v] w λe w'=>e=sh (O J (ba ms))/\Below w.heap.size w w':=by
 obtain⟨a,cap,rfl,hs,h⟩:=h;by_cases hn:6<ms.length
 .refine(fR a ms.length cap w hn).mono ?_
  rintro e w' ⟨rfl,rfl⟩;exact⟨aj (by rw[ba,if_pos hn]),Ib _ _⟩
 .rcases h with rfl|⟨b,off,rfl,hb,hr⟩
  .refine(fS a cap w).mono ?_
   rintro e w' ⟨rfl,rfl⟩;exact⟨rfl,Ib _ _⟩
  .exact gR ms b off cap w hr hb (by omega) hs
theorem cQ(a b:List cD)(va vb:Value)(pb cap:Nat)(w:World)(ha:Sl w va a)(hb:Sl w vb b)(hpb:pb<w.heap.size)(hc0:w.cell? ⟨pb,0,Y⟩=Z va)(hc1:w.cell? ⟨pb,1,Y⟩=Z vb) :
 Calls be 208 #[U (Z ⟨pb,0,Y⟩) 2 cap] w λe w'=>e=sh (O J (aJ a b))/\Below w.heap.size w w':=by
 have HA:Hid (Sl w va a):=ha;have HB:Hid (Sl w vb b):=hb;clear ha hb;go_enter Tryz.func208,Tryz.ntmps208;go_wp2_with fail;go_loopw [8] (λi w'=>∃k:Nat,k<=2/\i=O J k/\Below w.heap.size w w'/\Hid (0<k->ba a=0)/\Hid (1<k->ba b=0)) (λi _=>2-(intOf i).toNat)
 case atStart=>exact⟨0,by omega,rfl,Ib _ _,λh=>by omega,λh=>by omega⟩
 case round=>
  obtain⟨k,hk,rfl,aU,bW,cS⟩:=hrel;obtain⟨eA,nO⟩:=cH aU;have bA:=aU.size;have L7:Hid (Sl wr va a):=HA.out.below aU;have L8:Hid (Sl wr vb b):=HB.out.below aU;have gP:k=0\/k=1\/k=2:=by omega
  rcases gP with rfl|rfl|rfl
  .rcases he:decide (ba a=0) with _|_
   .have ki:(ba a !=0)=true:=by simpa using he
    clear he;go_wp2_with (go_at_call 130;refine(aW a _ _ L7.out).mono ?_;rintro e w' ⟨rfl,aC⟩);go_ret;exact⟨aj (by have h0:ba a≠0:=(by simpa using ki);rw[aJ,if_neg h0]),aU.trans (aC.mono bA)⟩
   .have ki:(ba a !=0)=false:=by simpa using he
    clear he;go_wp2_with (go_at_call 130;refine(aW a _ _ L7.out).mono ?_;rintro e w' ⟨rfl,aC⟩);go_roundw
    case rel=>exact⟨1,by omega,by go_num,aU.trans (aC.mono bA),λ_=>(by simpa using ki),λh=>by omega⟩
    case measure=>simp[intOf]
  .have h0:Hid _:=bW.out (by omega)
   rcases he:decide (ba b=0) with _|_
   .have ki:(ba b !=0)=true:=by simpa using he
    clear he;go_wp2_with (go_at_call 130;refine(aW b _ _ L8.out).mono ?_;rintro e w' ⟨rfl,aC⟩);go_ret;exact⟨aj (by rw[aJ,if_pos h0.out]),aU.trans (aC.mono bA)⟩
   .have ki:(ba b !=0)=false:=by simpa using he
    clear he;go_wp2_with (go_at_call 130;refine(aW b _ _ L8.out).mono ?_;rintro e w' ⟨rfl,aC⟩);go_roundw
    case rel=>exact⟨2,by omega,by go_num,aU.trans (aC.mono bA),λ_=>h0.out,λ_=>(by simpa using ki)⟩
    case measure=>simp[intOf]
  .go_wp2_with fail
   go_ret;exact⟨aj (by rw[aJ,if_pos (bW.out (by omega)),cS.out (by omega)]),aU⟩
theorem mh(a b:List cD)(va vb:Value)(pb cap:Nat)(w:World)(ha:Sl w va a)(hb:Sl w vb b)(hpb:pb<w.heap.size)(hc0:w.cell? ⟨pb,0,Y⟩=Z va)(hc1:w.cell? ⟨pb,1,Y⟩=Z vb)(bu:aJ a b≠0) :
 Calls be 148 #[U (Z ⟨pb,0,Y⟩) 2 cap] w λe w'=>e=sh (Il #[U Y 0 0,O J (aA a b)])/\Below w.heap.size w w':=by
 have he:(aJ a b !=0)=true:=by simpa using bu
 have HE:Hid (aA a b=aJ a b):=if_neg bu;have jH:=cQ a b va vb pb cap w ha hb hpb hc0 hc1;have HC:Hid (Calls _ _ _ _ _):=jH;clear jH ha hb bu;go_enter Tryz.func148,Tryz.ntmps148;go_wp2_with (go_at_call 208;refine HC.out.mono ?_;rintro e w' ⟨rfl,aC⟩);go_ret2;exact⟨by rw[HE.out];rfl,aC⟩
theorem kj(a b:List cD)(va vb:Value)(pb cap:Nat)(w:World)(ha:Sl w va a)(hb:Sl w vb b)(hpb:pb<w.heap.size)(hc0:w.cell? ⟨pb,0,Y⟩=Z va)(hc1:w.cell? ⟨pb,1,Y⟩=Z vb)(h0:aJ a b=0) :
 Calls be 148 #[U (Z ⟨pb,0,Y⟩) 2 cap] w λe w'=>∃v',e=sh (Il #[v',O J (aA a b)])/\Below w.heap.size w w' /\
  (6<(ay a b).length->v'=U Y 0 0)/\((ay a b).length<=6->Own w.heap.size w' v' (ay a b)):=by
 have he:(aJ a b !=0)=false:=by simpa using h0
 have MJ:ba a=0:=by unfold aJ at h0;split at h0<;>assumption
 have Wt:ba b=0:=by unfold aJ at h0;rw[if_pos MJ] at h0;exact h0
 have za:=aF MJ;have zb:=aF Wt;have HE:Hid (aA a b=if 6<(ay a b).length then 2 else 0):=if_pos h0;have HC:Hid (Calls _ _ _ _ _):=cQ a b va vb pb cap w ha hb hpb hc0 hc1;have HJ:Hid (∀w1,Below w.heap.size w w1->Calls be 209 #[IZ (.func 185) #[] #[],IZ (.func 210) #[] #[],U (Z ⟨pb,0,Y⟩) 2 cap] w1 λe w'=>∃v',e=sh v'/\Own w1.heap.size w' v' (ay a b)/\Below w1.heap.size w1 w'):=λw1 al=>
  kd a b va vb pb cap w1 (ha.below al) (hb.below al) (Iv hpb al.size) ((cH al).1 pb 0 hpb |>.trans hc0) ((cH al).1 pb 1 hpb |>.trans hc1) za.1 zb.1 za.2.1
 have MF:(ay a b).length<=12:=by have h1:=dY b a;have h2:=za.1;have h3:=zb.1;omega
 clear h0 MJ Wt za zb ha hb hc0 hc1;generalize ay a b=jl at *;generalize Wu:jl.length=n at *;have HGN:Hid _:=Wu;clear Wu;go_enter Tryz.func148,Tryz.ntmps148;go_wp2_with (go_at_call 208;refine HC.out.mono ?_;rintro e w1 ⟨rfl,al⟩);refine(HJ.out w1 al).mono ?_;rintro e w2 ⟨v',rfl,ho,aC⟩;have rF:∃p c,v'=U p n c:=by
  have hn:=HGN.out;rcases ho.2 with⟨h,h0⟩|⟨g,c,cur,h,_⟩
  .exact⟨Y,0,by rw[h];congr 1;omega⟩
  .exact⟨_,c,by rw[h,hn]⟩
 obtain⟨p,c,rfl⟩:=rF;have Wv:Hid _:=al.trans (aC.mono al.size);have eB:Hid (Own _ _ _ _):=ho.mono al.size;clear ho al aC HC HJ;by_cases aL:6<n
 .go_wp2_with fail
  go_ret2;refine⟨_,by rw[HE.out,if_pos aL];rfl,Wv.out,λ_=>rfl,λh=>by omega⟩
 .go_wp2_with fail
  go_ret2;refine⟨U p n c,by rw[HE.out,if_neg aL];rfl,Wv.out,λh=>by omega,λ_=>eB.out⟩
end Gw
namespace Gw
open Go.RowKit
theorem ko(a b:List cD)(va vb:Value)(pb cap:Nat)(w:World)(ha:Sl w va a)(hb:Sl w vb b)(hpb:pb<w.heap.size)(hc0:w.cell? ⟨pb,0,Y⟩=Z va)(hc1:w.cell? ⟨pb,1,Y⟩=Z vb) :
 Calls be 148 #[U (Z ⟨pb,0,Y⟩) 2 cap] w λe w'=>∃v',e=sh (Il #[v',O J (aA a b)])/\Below w.heap.size w w' /\
  (aA a b≠0->v'=U Y 0 0)/\(aA a b=0->Own w.heap.size w' v' (ay a b)):=by
 by_cases h0:aJ a b=0
 .refine(kj a b va vb pb cap w ha hb hpb hc0 hc1 h0).mono ?_
  rintro e w' ⟨v',rfl,h1,h2,h3⟩;have hE:aA a b=if 6<(ay a b).length then 2 else 0:=if_pos h0;refine⟨v',rfl,h1,λbu=>h2 ?_,λhz=>h3 ?_⟩
  .rw[hE] at bu;split at bu
   .assumption
   .exact absurd rfl bu
  .rw[hE] at hz;split at hz
   .cases hz
   .omega
 .refine(mh a b va vb pb cap w ha hb hpb hc0 hc1 h0).mono ?_
  rintro e w' ⟨rfl,h1⟩;have hE:aA a b=aJ a b:=if_neg h0;exact⟨_,rfl,h1,λ_=>rfl,λhz=>absurd (hE▸hz) h0⟩
theorem ql(a b:List cD)(va vb:Value)(w:World)(ha:Sl w va a)(hb:Sl w vb b) :
 Calls be 97 #[va,vb] w λe w'=>∃v',e=sh (Il #[v',O J (aA a b)])/\Below w.heap.size w w' /\
  (aA a b≠0->v'=U Y 0 0)/\(aA a b=0->Own w.heap.size w' v' (ay a b)):=by
 have HA:=ha;have HB:=hb;obtain⟨pa,ca,rfl,_,_⟩:=ha;obtain⟨pv,cb,rfl,_,_⟩:=hb;have df:Below w.heap.size w (w.alloc (AT #[U pa a.length ca,U pv b.length cb] 25)):=(Ib _ _).alloc (By _) _;have L7:Hid (Sl _ _ _):=HA.below df;have L8:Hid (Sl _ _ _):=HB.below df;clear HA HB;generalize a.length=na at *;generalize b.length=nb at *;go_enter Tryz.func97,Tryz.ntmps97;go_wp2_with fail;refine(ko a b (U pa na ca) (U pv nb cb) w.heap.size 2 _ L7.out L8.out (by simp) (af (Ie w _) 0) (af (Ie w _) 1)).mono ?_;rintro e w2 ⟨v',rfl,h1,h2,h3⟩;have H2:Hid _:=h2;have H3:Hid _:=h3;clear h2 h3;go_wp2_with fail;go_ret2;exact⟨v',rfl,df.trans (h1.mono (by simp)),H2.out,λh=>(H3.out h).mono (by simp)⟩
section
open Go.ChangeShapes Go.WideShapes Go.ChangeAt
variable {H:Type} {enc:TypeId × Value→H} {w:World} {base:Nat} {spare:Nat→Bool} {held:Bool}
end
end Gw
namespace Gw
open Go.RowKit
def mm(ms:List cD)(p:Nat)(f:Bool):cD:=if f=true then ms.getD p dm else dm
theorem qm(ms:List cD)(v:Value)(name:ByteArray)(w:World)(h:Sl w v ms)(hn:ms.length<=6)(hr:bO ms) :
 aP 134 #[v,I name] w λe w'=>∃(p:Nat) (f:Bool),e=sh (Il #[Im #[I (mm ms p f).ai,O J (mm ms p f).addr,O J (mm ms p f).version],AI f])/\Below w.heap.size w w'/\At ms ⟨name,0,0⟩ p f:=by
 obtain⟨W0,dK,df,nP,dt⟩:=cR w #[I ⟨#[]⟩,O J 0,O J 0] 49;have HV:Hid (Sl W0 v ms):=h.below df;have HF:Hid (aP 189 #[v,Im #[I name,O J 0,O J 0],IZ (.func 185) #[] #[]] W0 λe w'=>∃(p:Nat) (f:Bool),e=sh (Il #[O J p,AI f])/\Below W0.heap.size W0 w'/\At ms ⟨name,0,0⟩ p f):=
  fH ms v ⟨name,0,0⟩ W0 HV.out (by omega) hr
 have Gj:Hid _:=dK;clear dK h hr;go_enter Tryz.func134,Tryz.ntmps134;go_wp2_with fail;rw[<- Gj.out];refine HF.out.mono ?_;rintro e w1 ⟨p,f,rfl,al,cA⟩;have fw:Hid _:=cA;have HV1:Hid (Sl w1 v ms):=HV.out.below al;have gI:=al.size;have aR:Hid _:=df.trans (al.mono (by omega));have bb:=(al.block w.heap.size (by omega)).trans dt;have t0:w1.cell? ⟨w.heap.size,0,Y⟩=Z (I ⟨#[]⟩):=af bb 0;have t1:w1.cell? ⟨w.heap.size,1,Y⟩=Z (O J 0):=af bb 1;have t2:w1.cell? ⟨w.heap.size,2,Y⟩=Z (O J 0):=af bb 2;have gF:∀o,w1.frozen? ⟨w.heap.size,o,Y⟩=false:=λo=>by simp[World.frozen?,bb]
 have aL:w.heap.size<w1.heap.size:=by omega
 clear cA HF HV dt bb df al Gj nP gI;cases f
 .go_wp2_with fail
  exact Ix (v:=Il #[Im #[I ⟨#[]⟩,O J 0,O J 0],AI false]) (by simp[results,Tryz.results134,go_sem,t0,t1,t2]) rfl ⟨p,false,rfl,(((aR.out.setCell (p:=⟨w.heap.size,0,Y⟩) (By _) _).setCell (p:=⟨w.heap.size,1,Y⟩) (By _) _).setCell (p:=⟨w.heap.size,2,Y⟩) (By _) _),fw.out⟩
 .have hp:=(fw.out.is.1 rfl).1
  obtain⟨a,cap,rfl,_,L9⟩:=HV1.out;obtain⟨b,off,Ww,zI,dL⟩:∃b off,a=Z ⟨b,off,Y⟩/\b<w1.heap.size/\Row w1 b off ms:=by
   rcases L9 with h|h
   .rw[h] at hp;simp at hp
   .exact h
  subst Ww;obtain⟨c0,c1,c2⟩:=dL p hp;clear dL L9 HV1;generalize hm:ms.getD p dm=m at *;have HM:Hid (mm ms p true=m):=by show mm ms p true=m;rw[mm,if_pos rfl,hm]
  clear hm;go_wp2_with fail;exact Ix (v:=Il #[Im #[I m.ai,O J m.addr,O J m.version],AI true]) (by simp[results,Tryz.results134,go_sem,t0,t1,t2]) rfl ⟨p,true,by rw[HM.out],(((aR.out.setCell (p:=⟨w.heap.size,0,Y⟩) (By _) _).setCell (p:=⟨w.heap.size,1,Y⟩) (By _) _).setCell (p:=⟨w.heap.size,2,Y⟩) (By _) _),fw.out⟩
end Gw
namespace Gw
open Go.RowKit
def gi(f:Bool)(here t_o:ByteArray):Int:=if(aN here&&aN t_o)=true then(if here=t_o then 6 else if f=true then 0 else 5) else 1
theorem mH(a b:ByteArray)(ha:a.size<=Ij)(hb:b.size<=Ij)(W:World) :
 aP 43 #[U (Z ⟨W.heap.size,0,Y⟩) 2 2] (W.alloc (AT #[I a,I b] 9)) λe w'=>e=sh (AI (aN a&&aN b))/\w'=W.alloc (AT #[I a,I b] 9):=by
 have hg:=Ie W (AT #[I a,I b] 9);refine(n9 [a,b] W.heap.size 2 _ (λj hj=>?_) (λj=>?_) (by simp)).mono ?_
 .rw[af hg]
  have:j=0\/j=1:=by simp at hj;omega
  rcases this with rfl|rfl<;>rfl
 .match j with
  |0=>exact ha
  |1=>exact hb
  |_+2=>simp[List.getD]
 .rintro e w' ⟨rfl,rfl⟩
  exact⟨aD (by simp),rfl⟩
def mI(ms:List cD)(p:Nat)(f:Bool)(here t_o:ByteArray):Int:=if gi f here t_o=0 then(mm ms p f).addr else 0
theorem Kb(ms:List cD)(v:Value)(here t_o:ByteArray)(w:World)(hv:Sl w v ms)(h0:ba ms=0)(hs:here.size<=Ij)(ht:t_o.size<=Ij)(p:Nat)(f:Bool)(cA:At ms ⟨t_o,0,0⟩ p f) :
 nZ 78 #[v,I here,I t_o] w (Il #[O J (mI ms p f here t_o),O J (gi f here t_o)]):=by
 have he:(ba ms !=0)=false:=by simpa using h0
 have hz:=aF h0;have HV:Hid (Sl w v ms):=hv;have HR:Hid (bO ms):=hz.2.1;have hlen:=hz.1;have fw:Hid (At ms ⟨t_o,0,0⟩ p f):=cA;clear hv h0 hz cA;rcases hl:(aN here&&aN t_o) with _|_
 .have hN:gi f here t_o=1:=by rw[gi,hl];rfl
  have HN:Hid (gi f here t_o=1/\mI ms p f here t_o=0):=⟨hN,by rw[mI,hN];rfl⟩;clear hN;go_enter Tryz.func78,Tryz.ntmps78;go_wp2_with (first|(go_at_call 130;refine(aW ms _ _ HV.out).mono ?_;rintro e w1 ⟨rfl,al⟩)|(go_at_call 43;refine(mH _ _ hs ht _).mono ?_;rintro e w' ⟨rfl,rfl⟩;rw[hl]));go_ret2;exact⟨by rw[HN.out.1,HN.out.2];rfl,al.alloc al.size _⟩
 .by_cases hht:here=t_o
  .subst hht
   have hN:gi f here here=6:=by rw[gi,hl,if_pos rfl,if_pos rfl]
   have HN:Hid (gi f here here=6/\mI ms p f here here=0):=⟨hN,by rw[mI,hN];rfl⟩;clear hN;go_enter Tryz.func78,Tryz.ntmps78;go_wp2_with (first|(go_at_call 130;refine(aW ms _ _ HV.out).mono ?_;rintro e w1 ⟨rfl,al⟩)|(go_at_call 43;refine(mH _ _ hs ht _).mono ?_;rintro e w' ⟨rfl,rfl⟩;rw[hl]));go_ret2;exact⟨by rw[HN.out.1,HN.out.2];rfl,al.alloc al.size _⟩
  .obtain⟨g1,g2⟩:=hY hht
   have hN:gi f here t_o=if f=true then 0 else 5:=by rw[gi,hl,if_pos rfl,if_neg hht]
   have HN:Hid (gi f here t_o=(if f=true then 0 else 5)/\mI ms p f here t_o=if f=true then(mm ms p f).addr else 0):=⟨hN,by rw[mI,hN];cases f<;>rfl⟩;clear hN;clear hht;go_enter Tryz.func78,Tryz.ntmps78;go_wp2_with (first|(go_at_call 130;refine(aW ms _ _ HV.out).mono ?_;rintro e w1 ⟨rfl,al⟩)|(go_at_call 43;refine(mH _ _ hs ht _).mono ?_;rintro e w' ⟨rfl,rfl⟩;rw[hl]));have TB:=al.alloc al.size (AT #[I here,I t_o] 9);refine(qm ms _ t_o _ (HV.out.below TB) hlen HR.out).mono ?_;rintro e w2 ⟨p',f',rfl,aC,yq⟩;obtain⟨rfl,rfl⟩:=eV fw.out yq;have bw:Hid (Below w.heap.size w w2):=TB.trans (aC.mono (by simp;have:=al.size;omega));clear yq al aC TB;generalize mm ms p f=kn at *;obtain⟨kc,ka,kv⟩:=kn;have iZ:=bw.out.size;cases f
   .go_wp2_with fail
    go_ret2;exact⟨by rw[HN.out.1,HN.out.2];rfl,bw.out.alloc iZ _⟩
   .go_wp2_with fail
    go_ret2;exact⟨by rw[HN.out.1,HN.out.2];rfl,bw.out.alloc iZ _⟩
end Gw
end Go.Proofs.YtfidjlcdlakceaaGreatDoor
