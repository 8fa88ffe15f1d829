import Derived.Test.YtfidjlcdlakceaaGreatDoorrt10
set_option maxHeartbeats 1600000
open Go.Value renaming agg→Ip,string→I,int→O,slice→U,tuple→Il,bool→AT,func→I7
open Go.IntKind renaming i64→J
open Go.Ending renaming returned→sh
open Go.Proofs.Tryz renaming prog→be
open Go renaming maxLen→Ii,bodyPost_ret→Iy,heap_alloc_new→Ie
open Go.RowKit.Below renaming refl→Ia
open Nat renaming le_refl→By
open Option renaming some→Z,none→Y
namespace Go.Proofs.YtfidjlcdlakceaaGreatDoor
namespace Gw
open Go.RowKit
end Gw
namespace Gw
open Go.RowKit
theorem fc(m:cW)(w:World)(hm:m.ok) :
 Calls be 183 #[Ip #[I m.ai,O J m.addr,O J m.version]] w λe w'=>e=sh (O J m.e)/\Below w.heap.size w w':=by
 have hs:m.ai.size<=Ii:=hm;have hB:Hid (Below w.heap.size w (w.alloc (.cells #[I m.ai,O J m.addr,O J m.version] 49))):=(Ia _ _).alloc (By _) _;clear hm;rcases h1:aA m.ai with _|_
 .go_enter Tryz.func183,Tryz.ntmps183
  go_wp2_with (go_at_call 65;refine(aW _ _ hs).mono ?_;rintro e w' ⟨rfl,rfl⟩;rw[h1]);go_ret;exact⟨aj (by simp[cW.e,h1]),hB.out⟩
 .rcases h2:within m.addr 0 4294967295 with _|_
  .go_enter Tryz.func183,Tryz.ntmps183
   go_wp2_with (first|(go_at_call 65;refine(aW _ _ hs).mono ?_;rintro e w' ⟨rfl,rfl⟩;rw[h1])|(go_at_call 44;refine(dG _ _).mono ?_;rintro e w' ⟨rfl,rfl⟩;rw[h2]));go_ret;exact⟨aj (by simp[cW.e,h1,h2]),hB.out⟩
  .rcases h3:within m.version 1 1000000 with _|_
   all_goals
    go_enter Tryz.func183,Tryz.ntmps183;go_wp2_with (first|(go_at_call 65;refine(aW _ _ hs).mono ?_;rintro e w' ⟨rfl,rfl⟩;rw[h1])|(go_at_call 44;refine(dG _ _).mono ?_;rintro e w' ⟨rfl,rfl⟩;rw[h2])|(go_at_call 70;refine(bw _ _ _ _).mono ?_;rintro e w' ⟨rfl,rfl⟩;rw[h3]));go_ret;exact⟨aj (by simp[cW.e,h1,h2,h3]),hB.out⟩
theorem gl(ms:List cW)(b off cap:Nat)(w:World)(hr:Row w b off ms)(hb:b<w.heap.size)(hn:ms.length<=6)(hs:∀j,(ms.getD j dm).ok) :
 Calls be 130 #[U (Z ⟨b,off,Y⟩) ms.length cap] w λe w'=>e=sh (O J (aM ms))/\Below w.heap.size w w':=by
 have HR:Hid (Row w b off ms):=hr;have HE:Hid (∀k,k<ms.length->(∀j,j<k->(ms.getD j dm).e=0)->(ms.getD k dm).e≠0->aM ms=(ms.getD k dm).e):=λk h1 h2 h3=>ll ms k hn h1 h2 h3;have H4:Hid ((∀j,j<ms.length->(ms.getD j dm).e=0)->aM ms=if aC ms=true then 0 else 4):=λh1=>ja ms hn h1;have Kb:Hid (∀w',Below w.heap.size w w'->Calls _ _ _ _ _):=λw' pX=>jE ms b off cap w' (hr.later pX hb) (Nat.lt_of_lt_of_le hb pX.size) hn;clear hr;generalize hN:ms.length=n at *;have HN:Hid _:=hN;clear hN;have HS:Hid _:=hs;clear hs;generalize hC:aM ms=res at *;have HC:Hid _:=hC;clear hC;generalize Kc:aC ms=rb at *;have TJ:Hid _:=Kc;clear Kc;go_enter Tryz.func130,Tryz.ntmps130;go_wp2_with fail;go_loopw [11] (λi w'=>∃k:Nat,k<=n/\i=O J k/\Below w.heap.size w w'/\Hid (∀j,j<k->(ms.getD j dm).e=0)) (λi _=>n-(intOf i).toNat)
 case atStart=>exact⟨0,Nat.zero_le _,rfl,Ia _ _,λj h=>absurd h (Nat.not_lt_zero _)⟩
 case round=>
  obtain⟨k,hk,rfl,aL,hz⟩:=hrel;obtain⟨dJ,k8⟩:=cD aL;have bb:=aL.size;by_cases aB:k<n
  .obtain⟨c0,c1,c2⟩:=HR.out k (by rw[HN.out];exact aB)
   have GH:Hid _:=HS.out k;have HK:Hid ((ms.getD k dm).e≠0->res=(ms.getD k dm).e):=λh=>HE.out k aB hz.out h;have HZ:Hid ((ms.getD k dm).e=0->∀j,j<k+1->(ms.getD j dm).e=0):=λh j hj=>by
    rcases Nat.lt_succ_iff_lt_or_eq.1 hj with h2|rfl
    .exact hz.out j h2
    .exact h
   generalize ms.getD k dm=m at *;have HO:Hid (∀w,Calls _ _ _ _ _):=λw=>fc m w GH.out;generalize m.e=me at *;rcases he:decide (me=0) with _|_
   .have gJ:(me !=0)=true:=by simpa using he
    clear he;go_wp2_with (go_at_call 183;refine(HO.out _).mono ?_;rintro e w' ⟨rfl,aD⟩);go_ret;have bE:me≠0:=by simpa using gJ
    have iS:=HK.out bE;exact⟨aj iS.symm,(aL.alloc bb _).trans (aD.mono (by simp;omega))⟩
   .have gJ:(me !=0)=false:=by simpa using he
    clear he;go_wp2_with (go_at_call 183;refine(HO.out _).mono ?_;rintro e w' ⟨rfl,aD⟩);go_roundw
    case rel=>
     have Kd:me=0:=by simpa using gJ
     exact⟨k+1,by omega,by go_num,(aL.alloc bb _).trans (aD.mono (by simp;omega)),HZ.out Kd⟩
    case measure=>simp[intOf];omega
  .have cX:Hid (∀j,j<n->(ms.getD j dm).e=0):=λj hj=>hz.out j (by omega)
   have gW:Hid _:=H4.out cX.out;clear hz cX H4 HE HC TJ;cases rb
   .go_wp2_with (go_at_call 184;refine(Kb.out _ aL).mono ?_;rintro e w' ⟨rfl,aD⟩)
    go_ret;exact⟨aj (by rw[gW.out];rfl),aL.trans (aD.mono bb)⟩
   .go_wp2_with (go_at_call 184;refine(Kb.out _ aL).mono ?_;rintro e w' ⟨rfl,aD⟩)
    go_ret;exact⟨aj (by rw[gW.out];rfl),aL.trans (aD.mono bb)⟩
theorem fs(a:Option Addr)(n cap:Nat)(w:World)(hn:6<n) :
 Calls be 130 #[U a n cap] w λe w'=>e=sh (O J 2)/\w'=w:=by
 go_enter Tryz.func130,Tryz.ntmps130;go_wp2_with fail;go_ret;exact⟨rfl,rfl⟩
theorem ft(a:Option Addr)(cap:Nat)(w:World) :
 Calls be 130 #[U a 0 cap] w λe w'=>e=sh (O J 0)/\w'=w:=by
 go_enter Tryz.func130,Tryz.ntmps130;go_wp2_with fail;go_loop [11] (λi=>i=O J 0) (λ_=>0)
 case atStart=>rfl
 case round=>
  subst hrel;go_wp2_with (go_at_call 184;refine(fq _ _ _ _).mono ?_;rintro e w' ⟨rfl,rfl⟩);go_ret;exact⟨rfl,rfl⟩
theorem aR(ms:List cW)(v:Value)(w:World)(h:Sl w v ms) :
 Calls be 130 #[v] w λe w'=>e=sh (O J (aM ms))/\Below w.heap.size w w':=by
 obtain⟨a,cap,rfl,hs,h⟩:=h;by_cases hn:6<ms.length
 .refine(fs a ms.length cap w hn).mono ?_
  rintro e w' ⟨rfl,rfl⟩;exact⟨aj (by rw[aM,if_pos hn]),Ia _ _⟩
 .rcases h with rfl|⟨b,off,rfl,hb,hr⟩
  .refine(ft a cap w).mono ?_
   rintro e w' ⟨rfl,rfl⟩;exact⟨rfl,Ia _ _⟩
  .exact gl ms b off cap w hr hb (by omega) hs
theorem ee(a b:List cW)(va vb:Value)(pb cap:Nat)(w:World)(ha:Sl w va a)(hb:Sl w vb b)(uj:pb<w.heap.size)(mJ:w.cell? ⟨pb,0,Y⟩=Z va)(kM:w.cell? ⟨pb,1,Y⟩=Z vb) :
 Calls be 208 #[U (Z ⟨pb,0,Y⟩) 2 cap] w λe w'=>e=sh (O J (aY a b))/\Below w.heap.size w w':=by
 have HA:Hid (Sl w va a):=ha;have HB:Hid (Sl w vb b):=hb;clear ha hb;go_enter Tryz.func208,Tryz.ntmps208;go_wp2_with fail;go_loopw [8] (λi w'=>∃k:Nat,k<=2/\i=O J k/\Below w.heap.size w w'/\Hid (0<k->aM a=0)/\Hid (1<k->aM b=0)) (λi _=>2-(intOf i).toNat)
 case atStart=>exact⟨0,by omega,rfl,Ia _ _,λh=>by omega,λh=>by omega⟩
 case round=>
  obtain⟨k,hk,rfl,aL,cE,cP⟩:=hrel;obtain⟨dJ,k8⟩:=cD aL;have bb:=aL.size;have RY:Hid (Sl wr va a):=HA.out.below aL;have RZ:Hid (Sl wr vb b):=HB.out.below aL;have j3:k=0\/k=1\/k=2:=by omega
  rcases j3 with rfl|rfl|rfl
  .rcases he:decide (aM a=0) with _|_
   .have gJ:(aM a !=0)=true:=by simpa using he
    clear he;go_wp2_with (go_at_call 130;refine(aR a _ _ RY.out).mono ?_;rintro e w' ⟨rfl,aD⟩);go_ret;exact⟨aj (by have h0:aM a≠0:=(by simpa using gJ);rw[aY,if_neg h0]),aL.trans (aD.mono bb)⟩
   .have gJ:(aM a !=0)=false:=by simpa using he
    clear he;go_wp2_with (go_at_call 130;refine(aR a _ _ RY.out).mono ?_;rintro e w' ⟨rfl,aD⟩);go_roundw
    case rel=>exact⟨1,by omega,by go_num,aL.trans (aD.mono bb),λ_=>(by simpa using gJ),λh=>by omega⟩
    case measure=>simp[intOf]
  .have h0:Hid _:=cE.out (by omega)
   rcases he:decide (aM b=0) with _|_
   .have gJ:(aM b !=0)=true:=by simpa using he
    clear he;go_wp2_with (go_at_call 130;refine(aR b _ _ RZ.out).mono ?_;rintro e w' ⟨rfl,aD⟩);go_ret;exact⟨aj (by rw[aY,if_pos h0.out]),aL.trans (aD.mono bb)⟩
   .have gJ:(aM b !=0)=false:=by simpa using he
    clear he;go_wp2_with (go_at_call 130;refine(aR b _ _ RZ.out).mono ?_;rintro e w' ⟨rfl,aD⟩);go_roundw
    case rel=>exact⟨2,by omega,by go_num,aL.trans (aD.mono bb),λ_=>h0.out,λ_=>(by simpa using gJ)⟩
    case measure=>simp[intOf]
  .go_wp2_with fail
   go_ret;exact⟨aj (by rw[aY,if_pos (cE.out (by omega)),cP.out (by omega)]),aL⟩
end Gw
namespace Gw
open Go.RowKit
section
open Go.ChangeShapes Go.WideShapes Go.ChangeAt
variable {H:Type} {enc:TypeId × Value→H} {w:World} {base:Nat} {spare:Nat→Bool} {held:Bool}
end
end Gw
namespace Gw
open Go.RowKit
def Ai(ms:List cW)(p:Nat)(f:Bool):cW:=if f=true then ms.getD p dm else dm
theorem Fl(ms:List cW)(v:Value)(name:ByteArray)(w:World)(h:Sl w v ms)(hn:ms.length<=6)(hr:dt ms) :
 aT 134 #[v,I name] w λe w'=>∃(p:Nat) (f:Bool),e=sh (Il #[Ip #[I (Ai ms p f).ai,O J (Ai ms p f).addr,O J (Ai ms p f).version],AT f])/\Below w.heap.size w w'/\At ms ⟨name,0,0⟩ p f:=by
 obtain⟨W0,eu,eN,r8,eo⟩:=eC w #[I ⟨#[]⟩,O J 0,O J 0] 49;have HV:Hid (Sl W0 v ms):=h.below eN;have HF:Hid (aT 189 #[v,Ip #[I name,O J 0,O J 0],I7 (.func 185) #[] #[]] W0 λe w'=>∃(p:Nat) (f:Bool),e=sh (Il #[O J p,AT f])/\Below W0.heap.size W0 w'/\At ms ⟨name,0,0⟩ p f):=
  nO ms v ⟨name,0,0⟩ W0 HV.out (by omega) hr
 have Xp:Hid _:=eu;clear eu h hr;go_enter Tryz.func134,Tryz.ntmps134;go_wp2_with fail;rw[<- Xp.out];refine HF.out.mono ?_;rintro e w1 ⟨p,f,rfl,an,cG⟩;have hY:Hid _:=cG;have HV1:Hid (Sl w1 v ms):=HV.out.below an;have gi:=an.size;have aK:Hid _:=eN.trans (an.mono (by omega));have bf:=(an.block w.heap.size (by omega)).trans eo;have t0:w1.cell? ⟨w.heap.size,0,Y⟩=Z (I ⟨#[]⟩):=af bf 0;have t1:w1.cell? ⟨w.heap.size,1,Y⟩=Z (O J 0):=af bf 1;have t2:w1.cell? ⟨w.heap.size,2,Y⟩=Z (O J 0):=af bf 2;have iz:∀o,w1.frozen? ⟨w.heap.size,o,Y⟩=false:=λo=>by simp[World.frozen?,bf]
 have aB:w.heap.size<w1.heap.size:=by omega
 clear cG HF HV eo bf eN an Xp r8 gi;cases f
 .go_wp2_with fail
  exact Iy (v:=Il #[Ip #[I ⟨#[]⟩,O J 0,O J 0],AT false]) (by simp[results,Tryz.results134,go_sem,t0,t1,t2]) rfl ⟨p,false,rfl,(((aK.out.setCell (p:=⟨w.heap.size,0,Y⟩) (By _) _).setCell (p:=⟨w.heap.size,1,Y⟩) (By _) _).setCell (p:=⟨w.heap.size,2,Y⟩) (By _) _),hY.out⟩
 .have hp:=(hY.out.is.1 rfl).1
  obtain⟨a,cap,rfl,_,PL⟩:=HV1.out;obtain⟨b,off,MX,Cs,dP⟩:∃b off,a=Z ⟨b,off,Y⟩/\b<w1.heap.size/\Row w1 b off ms:=by
   rcases PL with h|h
   .rw[h] at hp;simp at hp
   .exact h
  subst MX;obtain⟨c0,c1,c2⟩:=dP p hp;clear dP PL HV1;generalize hm:ms.getD p dm=m at *;have HM:Hid (Ai ms p true=m):=by show Ai ms p true=m;rw[Ai,if_pos rfl,hm]
  clear hm;go_wp2_with fail;exact Iy (v:=Il #[Ip #[I m.ai,O J m.addr,O J m.version],AT true]) (by simp[results,Tryz.results134,go_sem,t0,t1,t2]) rfl ⟨p,true,by rw[HM.out],(((aK.out.setCell (p:=⟨w.heap.size,0,Y⟩) (By _) _).setCell (p:=⟨w.heap.size,1,Y⟩) (By _) _).setCell (p:=⟨w.heap.size,2,Y⟩) (By _) _),hY.out⟩
end Gw
namespace Gw
open Go.RowKit
def fH(f:Bool)(here t_o:ByteArray):Int:=if(aA here&&aA t_o)=true then(if here=t_o then 6 else if f=true then 0 else 5) else 1
theorem lH(a b:ByteArray)(ha:a.size<=Ii)(hb:b.size<=Ii)(W:World) :
 aT 43 #[U (Z ⟨W.heap.size,0,Y⟩) 2 2] (W.alloc (.cells #[I a,I b] 9)) λe w'=>e=sh (AT (aA a&&aA b))/\w'=W.alloc (.cells #[I a,I b] 9):=by
 have hg:=Ie W (.cells #[I a,I b] 9);refine(mT [a,b] W.heap.size 2 _ (λj hj=>?_) (λj=>?_) (by simp)).mono ?_
 .rw[af hg]
  have:j=0\/j=1:=by simp at hj;omega
  rcases this with rfl|rfl<;>rfl
 .match j with
  |0=>exact ha
  |1=>exact hb
  |_+2=>simp[List.getD]
 .rintro e w' ⟨rfl,rfl⟩
  exact⟨az (by simp),rfl⟩
def lI(ms:List cW)(p:Nat)(f:Bool)(here t_o:ByteArray):Int:=if fH f here t_o=0 then(Ai ms p f).addr else 0
theorem Fm(ms:List cW)(v:Value)(here t_o:ByteArray)(w:World)(hv:Sl w v ms)(h0:aM ms=0)(hs:here.size<=Ii)(ht:t_o.size<=Ii)(p:Nat)(f:Bool)(cG:At ms ⟨t_o,0,0⟩ p f) :
 ij 78 #[v,I here,I t_o] w (Il #[O J (lI ms p f here t_o),O J (fH f here t_o)]):=by
 have he:(aM ms !=0)=false:=by simpa using h0
 have hz:=aI h0;have HV:Hid (Sl w v ms):=hv;have HR:Hid (dt ms):=hz.2.1;have hlen:=hz.1;have hY:Hid (At ms ⟨t_o,0,0⟩ p f):=cG;clear hv h0 hz cG;rcases hl:(aA here&&aA t_o) with _|_
 .have hN:fH f here t_o=1:=by rw[fH,hl];rfl
  have HN:Hid (fH f here t_o=1/\lI ms p f here t_o=0):=⟨hN,by rw[lI,hN];rfl⟩;clear hN;go_enter Tryz.func78,Tryz.ntmps78;go_wp2_with (first|(go_at_call 130;refine(aR ms _ _ HV.out).mono ?_;rintro e w1 ⟨rfl,an⟩)|(go_at_call 43;refine(lH _ _ hs ht _).mono ?_;rintro e w' ⟨rfl,rfl⟩;rw[hl]));go_ret2;exact⟨by rw[HN.out.1,HN.out.2];rfl,an.alloc an.size _⟩
 .by_cases hht:here=t_o
  .subst hht
   have hN:fH f here here=6:=by rw[fH,hl,if_pos rfl,if_pos rfl]
   have HN:Hid (fH f here here=6/\lI ms p f here here=0):=⟨hN,by rw[lI,hN];rfl⟩;clear hN;go_enter Tryz.func78,Tryz.ntmps78;go_wp2_with (first|(go_at_call 130;refine(aR ms _ _ HV.out).mono ?_;rintro e w1 ⟨rfl,an⟩)|(go_at_call 43;refine(lH _ _ hs ht _).mono ?_;rintro e w' ⟨rfl,rfl⟩;rw[hl]));go_ret2;exact⟨by rw[HN.out.1,HN.out.2];rfl,an.alloc an.size _⟩
  .obtain⟨g1,g2⟩:=eJ hht
   have hN:fH f here t_o=if f=true then 0 else 5:=by rw[fH,hl,if_pos rfl,if_neg hht]
   have HN:Hid (fH f here t_o=(if f=true then 0 else 5)/\lI ms p f here t_o=if f=true then(Ai ms p f).addr else 0):=⟨hN,by rw[lI,hN];cases f<;>rfl⟩;clear hN;clear hht;go_enter Tryz.func78,Tryz.ntmps78;go_wp2_with (first|(go_at_call 130;refine(aR ms _ _ HV.out).mono ?_;rintro e w1 ⟨rfl,an⟩)|(go_at_call 43;refine(lH _ _ hs ht _).mono ?_;rintro e w' ⟨rfl,rfl⟩;rw[hl]));have PI:=an.alloc an.size (.cells #[I here,I t_o] 9);refine(Fl ms _ t_o _ (HV.out.below PI) hlen HR.out).mono ?_;rintro e w2 ⟨p',f',rfl,aD,Ki⟩;obtain⟨rfl,rfl⟩:=j4 hY.out Ki;have bD:Hid (Below w.heap.size w w2):=PI.trans (aD.mono (by simp;have:=an.size;omega));clear Ki an aD PI;generalize Ai ms p f=kn at *;obtain⟨kc,ka,kv⟩:=kn;have nP:=bD.out.size;cases f
   .go_wp2_with fail
    go_ret2;exact⟨by rw[HN.out.1,HN.out.2];rfl,bD.out.alloc nP _⟩
   .go_wp2_with fail
    go_ret2;exact⟨by rw[HN.out.1,HN.out.2];rfl,bD.out.alloc nP _⟩
end Gw
namespace Gw
open Go.RowKit
end Gw
namespace Gw
open Go.RowKit
end Gw
namespace Gw
open Go.RowKit
theorem nA(pa pv:Option Addr)(ca cb pb cap:Nat)(w:World)(mJ:w.cell? ⟨pb,0,Y⟩=Z (U pa 0 ca))(kM:w.cell? ⟨pb,1,Y⟩=Z (U pv 0 cb)) :
 Calls be 209 #[I7 (.func 185) #[] #[],I7 (.func 210) #[] #[],U (Z ⟨pb,0,Y⟩) 2 cap] w λe w'=>e=sh (U Y 0 0)/\w'=w:=by
 go_enter Tryz.func209,Tryz.ntmps209;go_wp2_with fail;go_loopw [7,16] (λkn i w'=>∃k:Nat,k<=2/\i=O J k/\kn=U Y 0 0/\w'=w) (λ_ i _=>2-(intOf i).toNat)
 case atStart=>exact⟨0,by omega,rfl,rfl,rfl⟩
 case round=>
  obtain⟨k,hk,rfl,rfl,rfl⟩:=hrel;by_cases aB:k<2
  .have hc:∃(p:Option Addr) (c:Nat),wr.cell? ⟨pb,k,Y⟩=Z (U p 0 c):=by
    rcases Nat.lt_or_ge k 1 with h|h
    .have:k=0:=by omega
     subst this;exact⟨_,_,mJ⟩
    .have:k=1:=by omega
     subst this;exact⟨_,_,kM⟩
   obtain⟨p,c,hc⟩:=hc;have rD:(k:Int)<2:=by omega
   clear mJ kM;go_wp2_with fail;go_loopw [7,22] (λkn j w'=>kn=U Y 0 0/\j=O J 0/\w'=wr) (λ_ _ _=>0)
   case atStart=>exact⟨rfl,rfl,rfl⟩
   case round=>
    obtain⟨rfl,rfl,rfl⟩:=hrel;go_wp2_with fail;first
    |exact⟨⟨k+1,by omega,by go_num,by simp,by simp⟩,by simp[intOf];omega⟩
    |(go_roundw
      case rel=>exact⟨k+1,by omega,by go_num,by simp,by simp⟩
      case measure=>simp[intOf];omega)
  .have hd:decide ((k:Int)<2)=false:=by simp;omega
   go_wp2_with fail;go_ret;exact⟨rfl,rfl⟩
theorem join_none(pa pv:Option Addr)(ca cb:Nat)(w:World) :
 Calls be 97 #[U pa 0 ca,U pv 0 cb] w λe w'=>e=sh (Il #[U Y 0 0,O J 0])/\Below w.heap.size w w':=by
 have HJ:Hid (∀(W:World) (pb cap:Nat),pb<W.heap.size->W.cell? ⟨pb,0,Y⟩=Z (U pa 0 ca)->W.cell? ⟨pb,1,Y⟩=Z (U pv 0 cb)->Calls be 148 #[U (Z ⟨pb,0,Y⟩) 2 cap] W λe w'=>e=sh (Il #[U Y 0 0,O J 0])/\Below W.heap.size W w'):=λW pb cap uj h0 h1=>by
  have hn:∀(p:Option Addr) (c:Nat),Sl W (U p 0 c) []:=λp c=>⟨p,c,rfl,bN (by simp),.inl rfl⟩;have HC:Hid (Calls be 208 #[U (Z ⟨pb,0,Y⟩) 2 cap] W λe w'=>e=sh (O J 0)/\Below W.heap.size W w'):=ee [] [] _ _ pb cap W (hn pa ca) (hn pv cb) uj h0 h1;have HR:Hid (∀w1,Below W.heap.size W w1->Calls be 209 #[I7 (.func 185) #[] #[],I7 (.func 210) #[] #[],U (Z ⟨pb,0,Y⟩) 2 cap] w1 λe w'=>e=sh (U Y 0 0)/\w'=w1):=λw1 an=>nA pa pv ca cb pb cap w1 ((cD an).1 pb 0 uj |>.trans h0) ((cD an).1 pb 1 uj |>.trans h1);clear hn;go_enter Tryz.func148,Tryz.ntmps148;go_wp2_with fail;refine HC.out.mono ?_;rintro e w1 ⟨rfl,an⟩;have aK:Hid (Below W.heap.size W w1):=an;have kA:=HR.out w1 an;clear an HR HC;go_wp2_with fail;refine kA.mono ?_;rintro e w2 ⟨rfl,qR⟩;have xu:=qR.symm;subst xu;go_wp2_with fail;go_ret2;exact⟨rfl,aK.out⟩
 go_enter Tryz.func97,Tryz.ntmps97;go_wp2_with fail;refine(HJ.out _ w.heap.size 2 (by simp) (af (Ie w _) 0) (af (Ie w _) 1)).mono ?_;rintro e w2 ⟨rfl,hb⟩;have HB:Hid (Below w.heap.size w w2):=((Ia _ _).alloc (By _) _).trans (hb.mono (by simp));clear hb;go_wp2_with fail;go_ret2;exact⟨rfl,HB.out⟩
end Gw
end Go.Proofs.YtfidjlcdlakceaaGreatDoor
