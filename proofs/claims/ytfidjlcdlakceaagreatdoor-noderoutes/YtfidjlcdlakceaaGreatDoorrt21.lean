import Derived.Test.YtfidjlcdlakceaaGreatDoorrt9
set_option maxHeartbeats 1600000
open Go.Obj renaming cells→AI
open Go.Value renaming string→I,slice→U,bool→AT,int→O
open Option renaming some→Z,none→Y
open Go.Ending renaming returned→sh
open Go.Proofs.Tryz renaming prog→be
open Go.IntKind renaming i64→J
namespace Go.Proofs.YtfidjlcdlakceaaGreatDoor
namespace Sv
open Go.RowKit
end Sv
namespace Sv
open Go.RowKit
theorem CJ(t:ByteArray)(W:World)(g:Nat)(hs:t.size<=maxLen)(hg:W.heap[g]?=Z (AI #[I t] 9 (0,0))) :
 Calls be 59 #[U (Z ⟨g,0,Y⟩) 1 1] W λe w'=>e=sh (AT (ki t))/\w'=W:=Ho t W g hs hg
def EU(m:ba):Bool:=[m.node,m.cF,m.name].all aA
theorem ba.aas(m:ba):m.e=if EU m=true then(if ki m.tag=true then(if within m.addr 0 4294967295=true then(if within m.port 0 65535=true then(if within m.version 1 1000000=true then 0 else 3) else 3) else 3) else 1) else 1:=by
 unfold ba.e EU;simp only[List.all_cons,List.all_nil,Bool.and_true];cases aA m.node<;>cases aA m.cF<;>cases aA m.name<;>cases ki m.tag<;>cases within m.addr 0 4294967295<;>cases within m.port 0 65535<;>cases within m.version 1 1000000<;>rfl
theorem yu(m:ba)(hm:m.ok)(W:World)(g:Nat)(hg:W.heap[g]?=Z (AI #[I m.node,I m.cF,I m.name] 9 (0,0))) :
 Calls be 43 #[U (Z ⟨g,0,Y⟩) 3 3] W λe w'=>e=sh (AT (EU m))/\w'=W:=by
 refine mT [m.node,m.cF,m.name] g 3 W (λj hj=>?_) (λj=>?_) (by simp)
 .rw[af hg]
  have:j=0\/j=1\/j=2:=by simp at hj;omega
  rcases this with rfl|rfl|rfl<;>rfl
 .obtain⟨h1,h2,h3,h4⟩:=hm
  match j with
  |0=>exact h1
  |1=>exact h2
  |2=>exact h3
  |_+3=>simp[List.getD]
theorem fc(m:ba)(w:World)(hm:m.ok) :
 Calls be 180 #[.agg #[I m.node,I m.cF,I m.name,I m.tag,O J m.addr,O J m.port,AT m.aO,O J m.version,AT m.gone]] w λe w'=>e=sh (O J m.e)/\Below w.heap.size w w':=by
 have hs:m.tag.size<=maxLen:=hm.2.2.2;have hB:Hid (Below w.heap.size w ((w.alloc (AI #[I m.node,I m.cF,I m.name,I m.tag,O J m.addr,O J m.port,AT m.aO,O J m.version,AT m.gone] 52)).alloc (AI #[I m.node,I m.cF,I m.name] 9))):=((Below.refl _ _).alloc (Nat.le_refl _) _).alloc (by simp) _;have hg:((w.alloc (AI #[I m.node,I m.cF,I m.name,I m.tag,O J m.addr,O J m.port,AT m.aO,O J m.version,AT m.gone] 52)).alloc (AI #[I m.node,I m.cF,I m.name] 9)).heap[w.heap.size+1]?=Z (AI #[I m.node,I m.cF,I m.name] 9 (0,0)):=by
  have h:=heap_alloc_new (w.alloc (AI #[I m.node,I m.cF,I m.name,I m.tag,O J m.addr,O J m.port,AT m.aO,O J m.version,AT m.gone] 52)) (AI #[I m.node,I m.cF,I m.name] 9);simpa using h
 have HL:Hid (Calls be 43 #[U (Z ⟨w.heap.size+1,0,Y⟩) 3 3] ((w.alloc (AI #[I m.node,I m.cF,I m.name,I m.tag,O J m.addr,O J m.port,AT m.aO,O J m.version,AT m.gone] 52)).alloc (AI #[I m.node,I m.cF,I m.name] 9)) λe w'=>e=sh (AT (EU m))/\w'=(w.alloc (AI #[I m.node,I m.cF,I m.name,I m.tag,O J m.addr,O J m.port,AT m.aO,O J m.version,AT m.gone] 52)).alloc (AI #[I m.node,I m.cF,I m.name] 9)):=yu m hm _ _ hg;clear hg;have hB3:Hid (Below w.heap.size w (((w.alloc (AI #[I m.node,I m.cF,I m.name,I m.tag,O J m.addr,O J m.port,AT m.aO,O J m.version,AT m.gone] 52)).alloc (AI #[I m.node,I m.cF,I m.name] 9)).alloc (AI #[I m.tag] 9))):=hB.out.alloc (by simp;omega) _;have xJ:(((w.alloc (AI #[I m.node,I m.cF,I m.name,I m.tag,O J m.addr,O J m.port,AT m.aO,O J m.version,AT m.gone] 52)).alloc (AI #[I m.node,I m.cF,I m.name] 9)).alloc (AI #[I m.tag] 9)).heap[w.heap.size+2]?=Z (AI #[I m.tag] 9 (0,0)):=by
  have h:=heap_alloc_new ((w.alloc (AI #[I m.node,I m.cF,I m.name,I m.tag,O J m.addr,O J m.port,AT m.aO,O J m.version,AT m.gone] 52)).alloc (AI #[I m.node,I m.cF,I m.name] 9)) (AI #[I m.tag] 9);simpa using h
 have HT:Hid (Calls be 59 #[U (Z ⟨w.heap.size+2,0,Y⟩) 1 1] (((w.alloc (AI #[I m.node,I m.cF,I m.name,I m.tag,O J m.addr,O J m.port,AT m.aO,O J m.version,AT m.gone] 52)).alloc (AI #[I m.node,I m.cF,I m.name] 9)).alloc (AI #[I m.tag] 9)) λe w'=>e=sh (AT (ki m.tag))/\w'=(((w.alloc (AI #[I m.node,I m.cF,I m.name,I m.tag,O J m.addr,O J m.port,AT m.aO,O J m.version,AT m.gone] 52)).alloc (AI #[I m.node,I m.cF,I m.name] 9)).alloc (AI #[I m.tag] 9))):=CJ m.tag _ _ hs xJ;clear xJ;have HD:Hid (m.e=if EU m=true then(if ki m.tag=true then(if within m.addr 0 4294967295=true then(if within m.port 0 65535=true then(if within m.version 1 1000000=true then 0 else 3) else 3) else 3) else 1) else 1):=m.aas;clear hm;rcases h1:EU m with _|_
 .go_enter Tryz.func180,Tryz.ntmps180
  go_wp2_with (go_at_call 43;refine HL.out.mono ?_;rintro e w' ⟨rfl,rfl⟩;rw[h1]);go_ret;exact⟨aj (by rw[HD.out];simp[h1]),hB.out⟩
 .rcases h2:ki m.tag with _|_
  .go_enter Tryz.func180,Tryz.ntmps180
   go_wp2_with (first|(go_at_call 43;refine HL.out.mono ?_;rintro e w' ⟨rfl,rfl⟩;rw[h1])|(go_at_call 59;refine HT.out.mono ?_;rintro e w' ⟨rfl,rfl⟩;rw[h2]));go_ret;exact⟨aj (by rw[HD.out];simp[h1,h2]),hB3.out⟩
  .rcases h3:within m.addr 0 4294967295 with _|_
   .go_enter Tryz.func180,Tryz.ntmps180
    go_wp2_with (first|(go_at_call 43;refine HL.out.mono ?_;rintro e w' ⟨rfl,rfl⟩;rw[h1])|(go_at_call 59;refine HT.out.mono ?_;rintro e w' ⟨rfl,rfl⟩;rw[h2])|(go_at_call 44;refine(dG _ _).mono ?_;rintro e w' ⟨rfl,rfl⟩;rw[h3]));go_ret;exact⟨aj (by rw[HD.out];simp[h1,h2,h3]),hB3.out⟩
   .rcases h4:within m.port 0 65535 with _|_
    .go_enter Tryz.func180,Tryz.ntmps180
     go_wp2_with (first|(go_at_call 43;refine HL.out.mono ?_;rintro e w' ⟨rfl,rfl⟩;rw[h1])|(go_at_call 59;refine HT.out.mono ?_;rintro e w' ⟨rfl,rfl⟩;rw[h2])|(go_at_call 44;refine(dG _ _).mono ?_;rintro e w' ⟨rfl,rfl⟩;rw[h3])|(go_at_call 70;refine(bw _ _ _ _).mono ?_;rintro e w' ⟨rfl,rfl⟩;rw[h4]));go_ret;exact⟨aj (by rw[HD.out];simp[h1,h2,h3,h4]),hB3.out⟩
    .rcases h5:within m.version 1 1000000 with _|_
     all_goals
      go_enter Tryz.func180,Tryz.ntmps180;go_wp2_with (first|(go_at_call 43;refine HL.out.mono ?_;rintro e w' ⟨rfl,rfl⟩;rw[h1])|(go_at_call 59;refine HT.out.mono ?_;rintro e w' ⟨rfl,rfl⟩;rw[h2])|(go_at_call 44;refine(dG _ _).mono ?_;rintro e w' ⟨rfl,rfl⟩;rw[h3])|(go_at_call 70;refine(bw _ _ _ _).mono ?_;rintro e w' ⟨rfl,rfl⟩;first|rw[h4]|rw[h5]));go_ret;exact⟨aj (by rw[HD.out];simp[h1,h2,h3,h4,h5]),hB3.out⟩
theorem gl(ms:List ba)(b off cap:Nat)(w:World)(hr:Row w b off ms)(hb:b<w.heap.size)(hn:ms.length<=40)(hs:∀j,(ms.getD j dm).ok) :
 Calls be 129 #[U (Z ⟨b,off,Y⟩) ms.length cap] w λe w'=>e=sh (O J (aM ms))/\Below w.heap.size w w':=by
 have HR:Hid (Row w b off ms):=hr;have HE:Hid (∀k,k<ms.length->(∀j,j<k->(ms.getD j dm).e=0)->(ms.getD k dm).e≠0->aM ms=(ms.getD k dm).e):=λk h1 h2 h3=>ll ms k hn h1 h2 h3;have H4:Hid ((∀j,j<ms.length->(ms.getD j dm).e=0)->aM ms=if aC ms=true then 0 else 4):=λh1=>ja ms hn h1;have Kb:Hid (∀w',Below w.heap.size w w'->Calls _ _ _ _ _):=λw' pX=>jE ms b off cap w' (hr.later pX hb) (Nat.lt_of_lt_of_le hb pX.size) hn;clear hr;generalize hN:ms.length=n at *;have HN:Hid _:=hN;clear hN;have HS:Hid _:=hs;clear hs;generalize hC:aM ms=res at *;have HC:Hid _:=hC;clear hC;generalize Kc:aC ms=rb at *;have TJ:Hid _:=Kc;clear Kc;go_enter Tryz.func129,Tryz.ntmps129;go_wp2_with fail;go_loopw [11] (λi w'=>∃k:Nat,k<=n/\i=O J k/\Below w.heap.size w w'/\Hid (∀j,j<k->(ms.getD j dm).e=0)) (λi _=>n-(intOf i).toNat)
 case atStart=>exact⟨0,Nat.zero_le _,rfl,Below.refl _ _,λj h=>absurd h (Nat.not_lt_zero _)⟩
 case round=>
  obtain⟨k,hk,rfl,aL,hz⟩:=hrel;obtain⟨dJ,k8⟩:=cD aL;have bb:=aL.size;by_cases aB:k<n
  .obtain⟨c0,c1,c2,c3,c4,c5,c6,c7,c8⟩:=HR.out k (by rw[HN.out];exact aB)
   have GH:Hid _:=HS.out k;have HK:Hid ((ms.getD k dm).e≠0->res=(ms.getD k dm).e):=λh=>HE.out k aB hz.out h;have HZ:Hid ((ms.getD k dm).e=0->∀j,j<k+1->(ms.getD j dm).e=0):=λh j hj=>by
    rcases Nat.lt_succ_iff_lt_or_eq.1 hj with h2|rfl
    .exact hz.out j h2
    .exact h
   generalize ms.getD k dm=m at *;have HO:Hid (∀w,Calls _ _ _ _ _):=λw=>fc m w GH.out;generalize m.e=me at *;rcases he:decide (me=0) with _|_
   .have gJ:(me !=0)=true:=by simpa using he
    clear he;go_wp2_with (go_at_call 180;refine(HO.out _).mono ?_;rintro e w' ⟨rfl,aD⟩);go_ret;have bE:me≠0:=by simpa using gJ
    have iS:=HK.out bE;exact⟨aj iS.symm,(aL.alloc bb _).trans (aD.mono (by simp;omega))⟩
   .have gJ:(me !=0)=false:=by simpa using he
    clear he;go_wp2_with (go_at_call 180;refine(HO.out _).mono ?_;rintro e w' ⟨rfl,aD⟩);go_roundw
    case rel=>
     have Kd:me=0:=by simpa using gJ
     exact⟨k+1,by omega,by go_num,(aL.alloc bb _).trans (aD.mono (by simp;omega)),HZ.out Kd⟩
    case measure=>simp[intOf];omega
  .have cX:Hid (∀j,j<n->(ms.getD j dm).e=0):=λj hj=>hz.out j (by omega)
   have gW:Hid _:=H4.out cX.out;clear hz cX H4 HE HC TJ;cases rb
   .go_wp2_with (go_at_call 181;refine(Kb.out _ aL).mono ?_;rintro e w' ⟨rfl,aD⟩)
    go_ret;exact⟨aj (by rw[gW.out];rfl),aL.trans (aD.mono bb)⟩
   .go_wp2_with (go_at_call 181;refine(Kb.out _ aL).mono ?_;rintro e w' ⟨rfl,aD⟩)
    go_ret;exact⟨aj (by rw[gW.out];rfl),aL.trans (aD.mono bb)⟩
theorem fs(a:Option Addr)(n cap:Nat)(w:World)(hn:40<n) :
 Calls be 129 #[U a n cap] w λe w'=>e=sh (O J 2)/\w'=w:=by
 go_enter Tryz.func129,Tryz.ntmps129;go_wp2_with fail;go_ret;exact⟨rfl,rfl⟩
theorem ft(a:Option Addr)(cap:Nat)(w:World) :
 Calls be 129 #[U a 0 cap] w λe w'=>e=sh (O J 0)/\w'=w:=by
 go_enter Tryz.func129,Tryz.ntmps129;go_wp2_with fail;go_loop [11] (λi=>i=O J 0) (λ_=>0)
 case atStart=>rfl
 case round=>
  subst hrel;go_wp2_with (go_at_call 181;refine(fq _ _ _ _).mono ?_;rintro e w' ⟨rfl,rfl⟩);go_ret;exact⟨rfl,rfl⟩
theorem aR(ms:List ba)(v:Value)(w:World)(h:Sl w v ms) :
 Calls be 129 #[v] w λe w'=>e=sh (O J (aM ms))/\Below w.heap.size w w':=by
 obtain⟨a,cap,rfl,hs,h⟩:=h;by_cases hn:40<ms.length
 .refine(fs a ms.length cap w hn).mono ?_
  rintro e w' ⟨rfl,rfl⟩;exact⟨aj (by rw[aM,if_pos hn]),Below.refl _ _⟩
 .rcases h with rfl|⟨b,off,rfl,hb,hr⟩
  .refine(ft a cap w).mono ?_
   rintro e w' ⟨rfl,rfl⟩;exact⟨rfl,Below.refl _ _⟩
  .exact gl ms b off cap w hr hb (by omega) hs
theorem ee(a b:List ba)(va vb:Value)(pb cap:Nat)(w:World)(ha:Sl w va a)(hb:Sl w vb b)(uj:pb<w.heap.size)(mJ:w.cell? ⟨pb,0,Y⟩=Z va)(kM:w.cell? ⟨pb,1,Y⟩=Z vb) :
 Calls be 205 #[U (Z ⟨pb,0,Y⟩) 2 cap] w λe w'=>e=sh (O J (aY a b))/\Below w.heap.size w w':=by
 have HA:Hid (Sl w va a):=ha;have HB:Hid (Sl w vb b):=hb;clear ha hb;go_enter Tryz.func205,Tryz.ntmps205;go_wp2_with fail;go_loopw [8] (λi w'=>∃k:Nat,k<=2/\i=O J k/\Below w.heap.size w w'/\Hid (0<k->aM a=0)/\Hid (1<k->aM b=0)) (λi _=>2-(intOf i).toNat)
 case atStart=>exact⟨0,by omega,rfl,Below.refl _ _,λh=>by omega,λh=>by omega⟩
 case round=>
  obtain⟨k,hk,rfl,aL,cE,cP⟩:=hrel;obtain⟨dJ,k8⟩:=cD aL;have bb:=aL.size;have RY:Hid (Sl wr va a):=HA.out.below aL;have RZ:Hid (Sl wr vb b):=HB.out.below aL;have j3:k=0\/k=1\/k=2:=by omega
  rcases j3 with rfl|rfl|rfl
  .rcases he:decide (aM a=0) with _|_
   .have gJ:(aM a !=0)=true:=by simpa using he
    clear he;go_wp2_with (go_at_call 129;refine(aR a _ _ RY.out).mono ?_;rintro e w' ⟨rfl,aD⟩);go_ret;exact⟨aj (by have h0:aM a≠0:=(by simpa using gJ);rw[aY,if_neg h0]),aL.trans (aD.mono bb)⟩
   .have gJ:(aM a !=0)=false:=by simpa using he
    clear he;go_wp2_with (go_at_call 129;refine(aR a _ _ RY.out).mono ?_;rintro e w' ⟨rfl,aD⟩);go_roundw
    case rel=>exact⟨1,by omega,by go_num,aL.trans (aD.mono bb),λ_=>(by simpa using gJ),λh=>by omega⟩
    case measure=>simp[intOf]
  .have h0:Hid _:=cE.out (by omega)
   rcases he:decide (aM b=0) with _|_
   .have gJ:(aM b !=0)=true:=by simpa using he
    clear he;go_wp2_with (go_at_call 129;refine(aR b _ _ RZ.out).mono ?_;rintro e w' ⟨rfl,aD⟩);go_ret;exact⟨aj (by rw[aY,if_pos h0.out]),aL.trans (aD.mono bb)⟩
   .have gJ:(aM b !=0)=false:=by simpa using he
    clear he;go_wp2_with (go_at_call 129;refine(aR b _ _ RZ.out).mono ?_;rintro e w' ⟨rfl,aD⟩);go_roundw
    case rel=>exact⟨2,by omega,by go_num,aL.trans (aD.mono bb),λ_=>h0.out,λ_=>(by simpa using gJ)⟩
    case measure=>simp[intOf]
  .go_wp2_with fail
   go_ret;exact⟨aj (by rw[aY,if_pos (cE.out (by omega)),cP.out (by omega)]),aL⟩
end Sv
end Go.Proofs.YtfidjlcdlakceaaGreatDoor
