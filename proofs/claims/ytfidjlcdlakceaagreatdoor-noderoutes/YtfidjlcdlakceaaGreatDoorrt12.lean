import Derived.Test.YtfidjlcdlakceaaGreatDoorrt11
set_option maxHeartbeats 1000000
set_option maxRecDepth 100000
open Go renaming maxLen→Ii,wpList_append_own→Ja,heap_alloc_new→Ie
open Go.Value renaming slice→U,int→O,agg→Ip,string→I,bool→AT,tuple→Il
open Go.IntKind renaming i64→J
open Option renaming some→Z,none→Y
open Nat renaming zero_le→IF,not_lt_zero→IP,lt_succ_iff_lt_or_eq→II,le_refl→By
open Go.RowKit.Below renaming refl→Ia
open Go.Ending renaming returned→sh
open Go.Obj renaming cells→AI
open Go.Proofs.Tryz renaming prog→be,underlying22→JU,underlying111→Jn
open List renaming getD→Io,getElem?_eq_getElem→Ic,map_append→QG,take_succ_eq_append_getElem→Iw,filter_append→JL
open Go.World.ownsRow renaming stored→JW,frozenAt→Jw,lt→IY
namespace Go.Proofs.YtfidjlcdlakceaaGreatDoor
open Go.RowKit
theorem oV(ms:List Mem)(b off cap:Nat)(w:World)(hr:Row w b off ms)(hb:b<w.heap.size)(hn:ms.length<=20)(hs:∀j,(ms.getD j dm).name.size<=Ii) :
 ij 34 #[U (Z ⟨b,off,Y⟩) ms.length cap] w (O J (aM ms)):=by
 have HR:Hid (Row w b off ms):=hr;clear hr;have HE:Hid (∀k,k<ms.length->(∀j,j<k->(ms.getD j dm).e=0)->(ms.getD k dm).e≠0->aM ms=(ms.getD k dm).e):=λk h1 h2 h3=>ll ms k hn h1 h2 h3;have H4:Hid ((∀j,j<ms.length->(ms.getD j dm).e=0)->∀k,k+1<ms.length->less (ms.getD k dm).name (ms.getD (k+1) dm).name=false->aM ms=4):=λh1 k h2 h3=>sf ms k hn h1 h2 h3;have H0:Hid ((∀j,j<ms.length->(ms.getD j dm).e=0)->(∀j,j+1<ms.length->less (ms.getD j dm).name (ms.getD (j+1) dm).name=true)->aM ms=0):=λh1 h2=>sg ms hn h1 h2;generalize hN:ms.length=n at *;have HN:Hid (ms.length=n):=hN;clear hN;have HS:Hid (∀j,(ms.getD j dm).name.size<=Ii):=hs;clear hs;generalize hC:aM ms=res at *;go_enter Tryz.func34,Tryz.ntmps34;go_wp2_with fail;go_loopw [3] (λi w'=>∃k:Nat,k<=n/\i=O J k/\Below w.heap.size w w'/\Hid (∀j,j<k->(ms.getD j dm).e=0)) (λi _=>n-(intOf i).toNat)
 case atStart=>exact⟨0,IF _,rfl,Ia _ _,λj h=>absurd h (IP _)⟩
 case round=>
  obtain⟨k,hk,rfl,aL,hz⟩:=hrel;obtain⟨dJ,k8⟩:=cD aL;have bb:=aL.size;by_cases aB:k<n
  .obtain⟨c0,c1,c2,c3,c4⟩:=HR.out k (by rw[HN.out];exact aB)
   have tT:=HS.out k;have HK:Hid ((ms.getD k dm).e≠0->res=(ms.getD k dm).e):=λh=>HE.out k aB hz.out h;have HZ:Hid ((ms.getD k dm).e=0->∀j,j<k+1->(ms.getD j dm).e=0):=λh j hj=>by
    rcases II.1 hj with h2|rfl
    .exact hz.out j h2
    .exact h
   generalize ms.getD k dm=m at *;obtain⟨nm,st,lf,ad,sv⟩:=m;simp only at c0 c1 c2 c3 c4 tT;rcases he:decide (gX nm st lf ad=0) with _|_
   .have gJ:(gX nm st lf ad !=0)=true:=by simpa using he
    clear he;go_wp2_with (go_at_call 81;refine(jv _ _ _ _ _ _ tT).mono ?_;rintro e w' ⟨rfl,rfl⟩);go_ret;have bE:gX nm st lf ad≠0:=by simpa using gJ
    have iS:res=gX nm st lf ad:=HK.out bE;exact⟨aj iS.symm,aL.alloc bb _⟩
   .have gJ:(gX nm st lf ad !=0)=false:=by simpa using he
    clear he;go_wp2_with (go_at_call 81;refine(jv _ _ _ _ _ _ tT).mono ?_;rintro e w' ⟨rfl,rfl⟩);go_roundw
    case rel=>
     have Kd:gX nm st lf ad=0:=by simpa using gJ
     exact⟨k+1,by omega,by go_num,aL.alloc bb _,HZ.out Kd⟩
    case measure=>simp[intOf];omega
  .have cX:Hid (∀j,j<n->(ms.getD j dm).e=0):=λj hj=>hz.out j (by omega)
   clear hz;go_wp2_with fail;go_loopw [5] (λi w'=>∃k:Nat,(k+1<=n\/k=0)/\i=O J (k+1)/\Below w.heap.size w w'/\Hid (∀j,j<k->less (ms.getD j dm).name (ms.getD (j+1) dm).name=true)) (λi _=>n-(intOf i).toNat)
   case atStart=>exact⟨0,.inr rfl,rfl,aL,λj h=>absurd h (IP _)⟩
   case round=>
    clear dJ k8 bb aL;obtain⟨q,hq,rfl,aL,hz⟩:=hrel;obtain⟨dJ,k8⟩:=cD aL;have bb:=aL.size;by_cases aB:q+1<n
    .obtain⟨c0,_,_,_,_⟩:=HR.out q (by rw[HN.out];omega)
     obtain⟨d0,_,_,_,_⟩:=HR.out (q+1) (by rw[HN.out];exact aB);have HK:Hid (less (ms.getD q dm).name (ms.getD (q+1) dm).name=false->res=4):=λh=>H4.out cX.out q aB h;have HZ:Hid (less (ms.getD q dm).name (ms.getD (q+1) dm).name=true->∀j,j<q+1->less (ms.getD j dm).name (ms.getD (j+1) dm).name=true):=λh j hj=>by
      rcases II.1 hj with h2|rfl
      .exact hz.out j h2
      .exact h
     generalize ms.getD q dm=m1 at *;generalize ms.getD (q+1) dm=m2 at *;rcases hl:Op.bytesLess m1.name.toList m2.name.toList with _|_
     .have h4:res=4:=HK.out hl
      clear hC;have dK:=gF m1.name.toList m2.name.toList;rw[hl] at dK;have uT:=dK.symm;clear dK hl;go_wp2_with fail;go_quiet (fail)
      go_wp2_with fail;go_ret;exact⟨aj h4.symm,below_drewN aL _⟩
     .have dK:=gF m1.name.toList m2.name.toList
      rw[hl] at dK;have uT:=dK.symm;clear dK;have HL:Hid _:=hl;clear hl;go_wp2_with fail;go_quiet (fail)
      go_wp2_with fail;go_roundw
      case rel=>exact⟨q+1,.inl (by omega),by go_num,below_drewN aL _,HZ.out HL.out⟩
      case measure=>simp[intOf];omega
    .have h0:res=0:=H0.out cX.out λj hj=>hz.out j (by omega)
     clear hC;go_wp2_with fail;go_ret;exact⟨aj h0.symm,aL⟩
theorem nQ(a:Option Addr)(n cap:Nat)(w:World)(hn:20<n) :
 aT 34 #[U a n cap] w λe w'=>e=sh (O J 2)/\w'=w:=by
 go_enter Tryz.func34,Tryz.ntmps34;go_wp2_with fail;go_ret;exact⟨rfl,rfl⟩
theorem nR(a:Option Addr)(cap:Nat)(w:World) :
 aT 34 #[U a 0 cap] w λe w'=>e=sh (O J 0)/\w'=w:=by
 go_enter Tryz.func34,Tryz.ntmps34;go_wp2_with fail;go_loop [3] (λi=>i=O J 0) (λ_=>0)
 case atStart=>rfl
 case round=>
  subst hrel;go_wp2_with fail;go_loop [5] (λi=>i=O J 1) (λ_=>0)
  case atStart=>rfl
  case round=>
   subst hrel;go_wp2_with fail;go_ret;exact⟨rfl,rfl⟩
theorem oW(ms:List Mem)(v:Value)(w:World)(h:Sl w v ms) :
 ij 34 #[v] w (O J (aM ms)):=by
 obtain⟨a,cap,rfl,hs,h⟩:=h;by_cases hn:20<ms.length
 .refine(nQ a ms.length cap w hn).mono ?_
  rintro e w' ⟨rfl,rfl⟩;exact⟨aj (by rw[aM,if_pos hn]),Ia _ _⟩
 .rcases h with rfl|⟨b,off,rfl,hb,hr⟩
  .refine(nR a cap w).mono ?_
   rintro e w' ⟨rfl,rfl⟩;exact⟨rfl,Ia _ _⟩
  .exact oV ms b off cap w hr hb (by omega) hs
theorem lV(nm:ByteArray)(st lf ad:Int)(sv:Bool)(w:World) :
 aT 201 #[Ip #[I nm,O J st,O J lf,O J ad,AT sv]] w λe w'=>e=sh (U (Z ⟨w.heap.size+1,0,Y⟩) 1 1)/\w'=(w.alloc (AI #[I nm,O J st,O J lf,O J ad,AT sv] 70)).alloc (AI #[I nm,O J st,O J lf,O J ad,AT sv] 70):=by
 go_enter Tryz.func201,Tryz.ntmps201;go_wp2;go_ret;exact⟨rfl,rfl⟩
def jH(x y:Mem):Bool:=x.name.toList==y.name.toList&&(x.state==y.state&&(x.aP==y.aP&&(x.addr==y.addr&&x.server==y.server)))
theorem lW(x y:Mem):jH x y=true↔x=y:=by
 obtain⟨n1,s1,l1,a1,v1⟩:=x;obtain⟨n2,s2,l2,a2,v2⟩:=y;simp only[jH,Bool.and_eq_true,beq_iff_eq,Mem.mk.injEq,Lib.toList_data];constructor
 .rintro⟨h1,h2,h3,h4,h5⟩;exact⟨jq h1,h2,h3,h4,h5⟩
 .rintro⟨rfl,h2,h3,h4,h5⟩;exact⟨rfl,h2,h3,h4,h5⟩
theorem TK(m1 m2:Mem)(w:World):(Op.equalIn 10000 70 (Ip #[I m1.name,O J m1.state,O J m1.aP,O J m1.addr,AT m1.server]) (Ip #[I m2.name,O J m2.state,O J m2.aP,O J m2.addr,AT m2.server])).run be w=.ok (jH m1 m2) w:=by
 have u3:=Tryz.underlying3;have u4:=Tryz.underlying4;have u9:=Tryz.underlying9;have a3:=Tryz.isAgg3;have z3:=Tryz.sizeOf3;have a4:=Tryz.isAgg4;have z4:=Tryz.sizeOf4;have a9:=Tryz.isAgg9;have z9:=Tryz.sizeOf9;have hS:Tryz.prog.underlying 70=Z (.struct (Tryz.prog.fieldsOf 70)):=by kernel_rfl
 have hp:Tryz.prog.stoodInHeld 70=false:=by kernel_rfl
 rw[show(10000:Nat)=9999+1 from rfl,run_equalIn_agg w 9999 70 _ _ hS hp];simp only[Program.fieldsOf,Tryz.underlying70];go_simp;unfold jH;by_cases h1:m1.name.toList=m2.name.toList<;>by_cases h2:m1.state=m2.state<;>by_cases h3:m1.aP=m2.aP<;>by_cases h4:m1.addr=m2.addr<;>by_cases h5:m1.server=m2.server<;>simp[h1,h2,h3,h4,h5]
theorem XK(m1 m2:Mem)(w:World):Sem.run be (binOp .neq 70 (Ip #[I m1.name,O J m1.state,O J m1.aP,O J m1.addr,AT m1.server]) (Ip #[I m2.name,O J m2.state,O J m2.aP,O J m2.addr,AT m2.server])) w=.ok (AT (!jH m1 m2)) w:=by
 rw[run_neq_struct,TK];rfl
theorem Ef(a b:List Mem)(va vb:Value)(w:World)(ha:Sl w va a)(hb:Sl w vb b)(Aw:a.length<=1000) :
 aT 202 #[va,vb] w λe w'=>∃r:Bool,e=sh (AT r)/\(r=true↔a=b)/\Below w.heap.size w w':=by
 obtain⟨pa,ca,rfl,_,ha⟩:=ha;obtain⟨pv,cb,rfl,_,hb⟩:=hb;by_cases hl:a.length=b.length
 .have HA:Hid _:=ha
  have HB:Hid _:=hb;have HL:Hid _:=hl;clear ha hb;rw[<- hl];clear hl;generalize qK:a.length=n at *;have HN:Hid _:=qK;clear qK;have akq:Tryz.prog.eqGuardType Tryz.prog.depth 70=false:=by kernel_rfl
  go_enter Tryz.func202,Tryz.ntmps202;go_wp2_with fail;go_loopw [13] (λi w'=>∃k:Nat,k<=n/\i=O J k/\Below w.heap.size w w'/\Hid (∀j,j<k->a.getD j dm=b.getD j dm)) (λi _=>n-(intOf i).toNat)
  case atStart=>exact⟨0,IF _,rfl,Ia _ _,λj h=>absurd h (IP _)⟩
  case round=>
   obtain⟨k,hk,rfl,aL,hz⟩:=hrel;obtain⟨dJ,k8⟩:=cD aL;have bb:=aL.size;by_cases aB:k<n
   .obtain⟨b1,o1,hZ,dX,kF⟩:∃b off,pa=Z ⟨b,off,Y⟩/\b<w.heap.size/\Row w b off a:=by
     rcases HA.out with h|h
     .have:=HN.out;rw[h] at this;simp at this;omega
     .exact h
    obtain⟨b2,o2,ND,dK,xK⟩:∃TG off,pv=Z ⟨TG,off,Y⟩/\TG<w.heap.size/\Row w TG off b:=by
     rcases HB.out with h|h
     .have h2:=HN.out;have h3:=HL.out;rw[h] at h3;simp at h3;omega
     .exact h
    subst hZ;subst ND;obtain⟨c0,c1,c2,c3,c4⟩:=kF k (by rw[HN.out];exact aB);obtain⟨d0,d1,d2,d3,d4⟩:=xK k (by have h2:=HN.out;have h3:=HL.out;omega);clear kF xK;have HF:Hid (a.getD k dm≠b.getD k dm->a≠b):=λh e=>h (by rw[e]);have HZ:Hid (a.getD k dm=b.getD k dm->∀j,j<k+1->a.getD j dm=b.getD j dm):=λh j hj=>by
     rcases II.1 hj with h2|rfl
     .exact hz.out j h2
     .exact h
    have Eg:=XK (a.getD k dm) (b.getD k dm);generalize a.getD k dm=m1 at *;generalize b.getD k dm=m2 at *;rcases hs:jH m1 m2 with _|_
    .rw[hs] at Eg
     have bE:Hid _:=HF.out (λe=>by rw[<- lW,hs] at e;cases e);go_wp2_with fail;go_quiet (fail)
     go_wp2_with fail;go_ret;exact⟨false,rfl,⟨λh=>(by cases h),λh=>absurd h bE.out⟩,below_drewN aL _⟩
    .rw[hs] at Eg
     have heq:Hid _:=(lW m1 m2).1 hs;go_wp2_with fail;go_quiet (fail)
     go_wp2_with fail;go_roundw
     case rel=>exact⟨k+1,by omega,by go_num,below_drewN aL _,HZ.out heq.out⟩
     case measure=>simp[intOf];omega
   .have Av:Hid (a=b):=by
     apply List.ext_getElem (HN.out.trans HL.out);intro j h1 h2;have:=hz.out j (by have:=HN.out;omega);simpa[Io,Ic h1,Ic h2] using this
    go_wp2_with fail;go_ret;exact⟨true,rfl,⟨λ_=>Av.out,λ_=>rfl⟩,aL⟩
 .have bE:((a.length:Int)!=(b.length:Int))=true:=by rw[bne_iff_ne];omega
  have HF:Hid (a≠b):=λe=>hl (by rw[e]);clear ha hb;go_enter Tryz.func202,Tryz.ntmps202;go_wp2_with fail;go_ret;exact⟨false,rfl,⟨λh=>(by cases h),λh=>absurd h HF.out⟩,Ia _ _⟩
theorem fD(ms:List Mem)(v:Value)(w:World)(h:Sl w v ms)(hn:ms.length<=1000) :
 aT 89 #[v] w λe w'=>∃v',e=sh v'/\Own w.heap.size w' v' ms/\Below w.heap.size w w':=by
 obtain⟨a,cap,rfl,hs,h⟩:=h;obtain⟨i0,eP,cE,gn,ga⟩:=info_parts Tryz.oX;cases a with
 |none=>
  have he:ms=[]:=by
   rcases h with h|⟨b,off,h,_⟩
   .exact h
   .cases h
  subst he;clear h hs;have gY:=λ(w:World)=>Lib.run_eql_slice_nil (P:=be) w 22 70 Y 0 cap 0 0 JU;simp only[List.length_nil,Option.isNone_none] at gY ⊢;go_enter Tryz.func89,Tryz.ntmps89;go_wp2_with fail;go_ret;exact⟨_,rfl,bz _ _,Ia _ _⟩
 |some a=>
  have gY:=λ(w:World)=>Lib.run_eql_slice_nil (P:=be) w 22 70 (Z a) ms.length cap 0 0 JU;simp only[Option.isNone_some] at gY;have hnews:Hid (∀j u,(fl ms)[j]?=Z u->(w.alloc (AI #[] 70)).cell? (a.add j)=Z u):=by
   intro j u hj;rcases h with h|⟨b,off,h,hb,hr⟩
   .subst h;simp[fl] at hj
   .cases h
    have MW:j<ms.length*5:=by rw[<- cS];exact(List.getElem?_eq_some_iff.1 hj).1
    have h1:=eD ms (j/5) (by omega) (j%5) (by omega);rw[show j/5*5+j%5=j by omega,hj] at h1;rw[Addr.add_lit,World.cell?_alloc_past (w:=w) _ b _ hb];obtain⟨c0,c1,c2,c3,c4⟩:=hr (j/5) (by omega);have cJ:j%5=0\/j%5=1\/j%5=2\/j%5=3\/j%5=4:=by omega
    rcases cJ with e|e|e|e|e
    .rw[show off+j=off+j/5*5 by omega,c0];rw[e] at h1;simpa[Mem.cs] using h1.symm
    .rw[show off+j=off+j/5*5+1 by omega,c1];rw[e] at h1;simpa[Mem.cs] using h1.symm
    .rw[show off+j=off+j/5*5+2 by omega,c2];rw[e] at h1;simpa[Mem.cs] using h1.symm
    .rw[show off+j=off+j/5*5+3 by omega,c3];rw[e] at h1;simpa[Mem.cs] using h1.symm
    .rw[show off+j=off+j/5*5+4 by omega,c4];rw[e] at h1;simpa[Mem.cs] using h1.symm
  have HO:Hid ((w.alloc (AI #[] 70)).ownsRow w.heap.size 70 5 (U (Z ⟨w.heap.size,0,Y⟩) 0 0) 0 []):=World.ownsRow_made w #[] 0 (By _) (by unfold Ii;omega) rfl;clear h hs;go_enter Tryz.func89,Tryz.ntmps89;go_wp2_with (at_builtin;refine Ja _ rfl _ _ 22 rfl w.heap.size 70 i0 _ 5 48 JU eP cE gn ga rfl (by omega) _ 0 [] rfl HO.out a ms.length cap (fl ms) rfl (cS ms) hnews.out (fL ms) (by unfold Ii;omega) (by omega) (by simp) ?_);intro v' w' r1 r2 r3;go_wp2_with fail;go_ret;refine⟨v',rfl,?_,?_⟩
  .simpa using r1
  .exact((Ia _ _).alloc (By _) _).grown r2 (by simp) (λk hk=>by simp[Value.ownBlock] at hk;omega)
theorem Kf(a b:List Mem)(va vb:Value)(pb cap:Nat)(w:World)(ha:Sl w va a)(hb:Sl w vb b)(uj:pb<w.heap.size)(mJ:w.cell? ⟨pb,0,Y⟩=Z va)(kM:w.cell? ⟨pb,1,Y⟩=Z vb) :
 Calls be 200 #[U (Z ⟨pb,0,Y⟩) 2 cap] w λe w'=>∃v',e=sh (Il #[v',O J (aX a b)])/\Below w.heap.size w w' /\
  (aX a b≠0->v'=U Y 0 0)/\(aX a b=0->Own w.heap.size w' v' (aZ a b)):=by
 by_cases h0:aY a b=0
 .refine(Ee a b va vb pb cap w ha hb uj mJ kM h0).mono ?_
  rintro e w' ⟨v',rfl,h1,h2,h3⟩;have hE:aX a b=if 20<(aZ a b).length then 2 else 0:=if_pos h0;refine⟨v',rfl,h1,λbE=>h2 ?_,λhz=>h3 ?_⟩
  .rw[hE] at bE;split at bE
   .assumption
   .exact absurd rfl bE
  .rw[hE] at hz;split at hz
   .cases hz
   .omega
 .refine(Ke a b va vb pb cap w ha hb uj mJ kM h0).mono ?_
  rintro e w' ⟨rfl,h1⟩;have hE:aX a b=aY a b:=if_neg h0;exact⟨_,rfl,h1,λ_=>rfl,λhz=>absurd (hE▸hz) h0⟩
theorem Kg(ms:List Mem)(m:Mem)(v:Value)(w:World)(hv:Sl w v ms)(hm:m.name.size<=Ii) :
 Calls be 144 #[v,Ip #[I m.name,O J m.state,O J m.aP,O J m.addr,AT m.server]] w λe w'=>∃(v':Value) (r:Bool),e=sh (Il #[v',AT r,O J (aX ms [m])])/\Below w.heap.size w w' /\
  (aX ms [m]≠0->v'=U Y 0 0/\r=false)/\(aX ms [m]=0->Own w.heap.size w' v' (bB ms m)/\(r=true↔bB ms m≠ms)):=by
 have HV:=hv;obtain⟨pa,ca,rfl,ns,_⟩:=hv;obtain⟨W,hW⟩:∃W,W=(((w.alloc (AI #[I m.name,O J m.state,O J m.aP,O J m.addr,AT m.server] 70)).alloc (AI #[I m.name,O J m.state,O J m.aP,O J m.addr,AT m.server] 70)).alloc (AI #[I m.name,O J m.state,O J m.aP,O J m.addr,AT m.server] 70)).alloc (AI #[U pa ms.length ca,U (Z ⟨w.heap.size+1+1,0,Y⟩) 1 1] 22):=⟨_,rfl⟩;go_enter Tryz.func144,Tryz.ntmps144;go_wp2_with (go_at_call 201;refine(lV _ _ _ _ _ _).mono ?_;rintro e w' ⟨rfl,rfl⟩);obtain⟨M,hM⟩:∃M:Obj,M=AI #[I m.name,O J m.state,O J m.aP,O J m.addr,AT m.server] 70:=⟨_,rfl⟩;have eN:Below w.heap.size w W:=by rw[hW];exact((((Ia _ _).alloc (By _) _).alloc (by simp) _).alloc (by simp;omega) _).alloc (by simp;omega) _
 have pY:W.heap.size=w.heap.size+1+1+1+1:=by rw[hW];simp
 have xJ:W.heap[w.heap.size+1+1+1]?=Z (AI #[U pa ms.length ca,U (Z ⟨w.heap.size+1+1,0,Y⟩) 1 1] 22 (0,0)):=by rw[hW];have:=Ie (((w.alloc M).alloc M).alloc M) (AI #[U pa ms.length ca,U (Z ⟨w.heap.size+1+1,0,Y⟩) 1 1] 22);rw[hM] at this;simpa using this
 have iQ:W.heap[w.heap.size+1+1]?=Z (AI #[I m.name,O J m.state,O J m.aP,O J m.addr,AT m.server] 70 (0,0)):=by
  rw[hW,Below.heap_alloc _ _ _ (by simp)];have:=Ie ((w.alloc M).alloc M) M;rw[hM] at this;simpa using this
 rw[<- hW];refine(Kf ms [m] (U pa ms.length ca) (U (Z ⟨w.heap.size+1+1,0,Y⟩) 1 1) (w.heap.size+1+1+1) 2 W (HV.below eN) (Ax W _ 1 m hm iQ) (by omega) (af xJ 0) (af xJ 1)).mono ?_;rintro e w2 ⟨v',rfl,h1,h2,h3⟩;have HB:Hid _:=eN.trans (h1.mono (by omega));have XL:Hid (Sl _ _ _):=HV.below HB.out;have H2:Hid _:=h2;have H3:Hid (aX ms [m]=0->Own w.heap.size w2 v' (bB ms m)):=λh=>(h3 h).mono (by omega);clear h2 h3 h1 iQ xJ pY eN hW hM HV;rcases he:decide (aX ms [m]=0) with _|_
 .have gJ:(aX ms [m]!=0)=true:=by simpa using he
  have bE:Hid (aX ms [m]≠0):=(show aX ms [m]≠0 by simpa using he);clear he;go_wp2_with fail;go_ret3
  exact⟨_,false,rfl,HB.out,λ_=>⟨rfl,rfl⟩,λh=>absurd h bE.out⟩
 .have gJ:(aX ms [m]!=0)=false:=by simpa using he
  have hz:Hid (aX ms [m]=0):=(show aX ms [m]=0 by simpa using he);clear he;have HO:Hid (Own _ _ _ _):=H3.out hz.out;have Cq:aM ms=0:=by
   have h:=hz.out;unfold Hid aX aY at h;by_cases h1:aM ms=0
   .exact h1
   .rw[if_neg h1,if_neg h1] at h;exact absurd h h1
  have HC:Hid _:=Cq;clear Cq;have NS:Hid _:=Cr (eK ns) hm;have hlen:Hid ((bB ms m).length<=1000):=by have h1:=oY ms m;have h2:=aI HC.out;show(bB ms m).length<=1000;omega
  go_wp2_with (go_at_call 202;refine(Ef (bB ms m) ms _ _ _ (fE HO.out NS.out) XL.out hlen.out).mono ?_;rintro e w3 ⟨r,rfl,h5,h6⟩);go_ret3
  refine⟨v',!r,by rw[show aX ms [m]=0 from hz.out];rfl,HB.out.trans (h6.mono HB.out.size),λh=>absurd hz.out h,λ_=>⟨HO.out.below h6,?_⟩⟩;cases r
  .simp at h5;simpa using h5
  .simp at h5;simpa using h5
theorem jw(nm:ByteArray)(st lf ad:Int)(sv:Bool)(w:World) :
 Calls be 248 #[Ip #[I nm,O J st,O J lf,O J ad,AT sv]] w λe w'=>e=sh (AT (decide (st=2)||decide (st=3)))/\w'=w.alloc (AI #[I nm,O J st,O J lf,O J ad,AT sv] 70):=by
 by_cases h:st=2
 .subst h
  go_enter Tryz.func248,Tryz.ntmps248;go_wp2;go_ret;exact⟨az (by simp),rfl⟩
 .have h':(st==2)=false:=by simpa using h
  go_enter Tryz.func248,Tryz.ntmps248;go_wp2;go_ret;exact⟨az (by rw[Bool.eq_iff_iff];simp[h]),rfl⟩
def dQ(m:Mem):Mem:=⟨m.name,1,m.aP+1,m.addr,m.server⟩
theorem NF(ms:List Mem)(p:Nat)(hp:p<ms.length):((fl ms).set (p*5+1) (O J 1)).set (p*5+2) (O J ((ms.getD p dm).aP+1))=fl (ms.set p (dQ (ms.getD p dm))):=by
 induction ms generalizing p with
 |nil=>simp at hp
 |cons x r ih=>
  cases p with
  |zero=>simp[fl,Mem.cs,dQ]
  |succ p=>
   have ih':=ih p (by simpa using hp);rw[List.set_cons_succ,bJ,bJ,List.getD_cons_succ,<- ih'];simp only[Nat.add_mul,Nat.one_mul];have e:∀(l:List Value) (k:Nat) (v:Value),(x.cs++l).set (k+5) v=x.cs++l.set k v:=λl k v=>by
    rw[List.set_append,if_neg (by rw[bL];omega),bL,Nat.add_sub_cancel]
   rw[show p*5+5+1=(p*5+1)+5 by omega,show p*5+5+2=(p*5+2)+5 by omega];rw[e,e]
theorem Kh{base g c p:Nat}{W:World}{ms:List Mem}(h:Own base W (U (Z ⟨g,0,Y⟩) ms.length c) ms)(hp:p<ms.length) :
 Own base ((W.setCell ⟨g,p*5+1,Y⟩ (O J 1)).setCell ⟨g,p*5+2,Y⟩ (O J ((ms.getD p dm).aP+1))) (U (Z ⟨g,0,Y⟩) ms.length c) (ms.set p (dQ (ms.getD p dm))):=by
 have h1:=JW h (p*5+1) (O J 1);have h2:=JW h1.1 (p*5+2) (O J ((ms.getD p dm).aP+1));have e:=h2.1;rw[NF ms p hp] at e;show World.ownsRow _ _ _ _ _ (ms.set p (dQ (ms.getD p dm))).length _;rw[List.length_set];exact e
theorem Eh{nm:ByteArray}{st lf ad:Int}(h:gX nm st lf ad=0):aA nm=true/\(1<=st/\st<=4)/\(1<=lf/\lf<=1000000)/\(0<=ad/\ad<=4294967295):=by
 have hw:∀n a b:Int,within n a b=true->a<=n/\n<=b:=λn a b h=>by simpa[within] using h
 unfold gX at h;split at h
 .rename_i h1
  split at h
  .rename_i h2
   split at h
   .rename_i h3
    split at h
    .rename_i h4
     exact⟨h1,hw _ _ _ h2,hw _ _ _ h3,hw _ _ _ h4⟩
    .omega
   .omega
  .omega
 .omega
theorem dw:∀(ms:List Mem),aQ ms=0->∀m∈ms,m.e=0
 |[],_,m,h=>by simp at h
 |x::r,h,m,hm=>by
  rw[aQ] at h;split at h
  .rename_i h1
   rcases List.mem_cons.1 hm with rfl|hm
   .exact h1
   .exact dw r h m hm
  .rename_i h1;exact absurd h h1
theorem si{ms:List Mem}(h:aQ ms=0)(p:Nat)(hp:p<ms.length):(ms.getD p dm).e=0:=by
 have:=dw ms h ms[p] (List.getElem_mem hp);simpa[Io,Ic hp] using this
def iT(ms:List Mem)(p:Nat)(f:Bool):Bool:=f&&(decide ((ms.getD p dm).state=2)||decide ((ms.getD p dm).state=3))&&!((ms.getD p dm).aP==1000000)
def iU(ms:List Mem)(p:Nat)(f:Bool):Int:=if f&&(decide ((ms.getD p dm).state=2)||decide ((ms.getD p dm).state=3))&&((ms.getD p dm).aP==1000000) then 3 else 0
def xL(ms:List Mem)(p:Nat)(f:Bool):List Mem:=if iT ms p f=true then ms.set p (dQ (ms.getD p dm)) else ms
def NG(ms:List Mem)(p:Nat)(f:Bool)(w:World)(e:Ending)(w':World):Prop:=
 ∃v':Value,e=sh (Il #[v',AT (iT ms p f),O J (iU ms p f)])/\Below w.heap.size w w'/\(iU ms p f≠0->v'=U Y 0 0)/\(iU ms p f=0->Own w.heap.size w' v' (xL ms p f))
theorem xM(ms:List Mem)(v:Value)(me:ByteArray)(w:World)(hv:Sl w v ms)(h0:aM ms=0)(hs:me.size<=Ii)(hl:aA me=true)(p:Nat)(f:Bool)(cG:At ms me p f) :
 Calls be 204 #[v,I me] w λe w'=>NG ms p f w e w':=by
 have he:(aM ms !=0)=false:=by simpa using h0
 have hz:=aI h0;have HN:Hid (∀x∈ms,x.name.size<=Ii):=by obtain⟨a,c,_,hn,_⟩:=hv;exact eK hn
 have HV:Hid (Sl w v ms):=hv;have HM:Hid (dt ms):=hz.2.1;have hlen:=hz.1;have xp:Hid _:=hz.2.2;have hY:Hid _:=cG;clear hv h0 hz cG;go_enter Tryz.func204,Tryz.ntmps204;go_wp2_with (first|(go_at_call 127;refine(aR ms _ _ HV.out).mono ?_;rintro e w1 ⟨rfl,an⟩)|(go_at_call 65;refine(aW _ _ hs).mono ?_;rintro e w' ⟨rfl,rfl⟩;rw[hl]));refine(fD ms _ _ (HV.out.below an) (by omega)).mono ?_;rintro e w2 ⟨kv,rfl,ky,aD⟩;have jF:Hid (Own _ _ _ _):=ky.mono an.size;have bD:Hid _:=an.trans (aD.mono an.size);clear ky aD an;go_wp2_with fail;refine(nO ms _ ⟨me,0,0,0,false⟩ _ (fE jF.out HN.out) (by omega) HM.out).mono ?_;rintro e w3 ⟨p',f',rfl,bn,Ki⟩;obtain⟨rfl,rfl⟩:=j4 hY.out Ki;have gI:Hid (Own _ _ _ _):=jF.out.below bn;have cT:Hid _:=bD.out.trans (bn.mono bD.out.size);clear Ki bn jF bD;cases f with
 |false=>
  go_wp2_with fail;go_ret3
  exact⟨kv,rfl,cT.out,λh=>absurd rfl h,λ_=>gI.out⟩
 |true=>
  have hp:=(hY.out.is.1 rfl).1;have hlf:=(Eh (si xp.out p hp)).2.2.1;obtain⟨g,c,hkv⟩:∃g c,kv=U (Z ⟨g,0,Y⟩) ms.length c:=by
   rcases gI.out.2 with⟨_,h0⟩|⟨g,c,cur,h,_⟩
   .omega
   .exact⟨g,c,h⟩
  subst hkv;have oU:=gI.out.lt g rfl;have iz:∀o,w3.frozen? ⟨g,o,Y⟩=false:=λo=>Jw gI.out o;have aez:=oU.2;obtain⟨b',aks,MX,Cs,dP⟩:∃b off,(Z ⟨g,0,Y⟩:Option Addr)=Z ⟨b,off,Y⟩/\b<w3.heap.size/\Row w3 b off ms:=by
   obtain⟨a,cap,h1,_,h2⟩:=fE gI.out HN.out;simp only[Value.slice.injEq] at h1;obtain⟨rfl,_⟩:=h1;rcases h2 with h2|h2
   .rw[h2] at hp;simp at hp
   .exact h2
  simp only[Option.some.injEq,Addr.mk.injEq,and_true] at MX;obtain⟨rfl,rfl⟩:=MX;obtain⟨c0,c1,c2,c3,c4⟩:=dP p hp;clear dP Cs;simp only[Nat.zero_add] at c0 c1 c2 c3 c4;generalize hm:ms.getD p dm=m2 at *;have Hm:Hid _:=hm;clear hm;obtain⟨n2,s2,l2,a2,v2⟩:=m2;simp only at c0 c1 c2 c3 c4 hlf;obtain⟨akt,aku⟩:=hlf;rcases hd:(decide (s2=2)||decide (s2=3)) with _|_
  .go_wp2_with (go_at_call 248;refine(jw _ _ _ _ _ _).mono ?_;rintro e w' ⟨rfl,rfl⟩;rw[hd])
   go_ret3
   have e1:iT ms p true=false:=by unfold iT;rw[Hm.out];simp only[hd];rfl
   have e2:iU ms p true=0:=by unfold iU;rw[Hm.out];simp only[hd];rfl
   refine⟨U (Z ⟨g,0,Y⟩) ms.length c,by rw[e1,e2];rfl,cT.out.alloc cT.out.size _,λh=>absurd e2 h,λ_=>?_⟩;rw[xL,e1,if_neg (by simp)];exact gI.out.below ((Ia _ _).alloc (By _) _)
  .rcases dK:((l2:Int)==1000000) with _|_
   .have e1:iT ms p true=true:=by unfold iT;rw[Hm.out];simp only[hd,dK];rfl
    have e2:iU ms p true=0:=by unfold iU;rw[Hm.out];simp only[hd,dK];rfl
    have E1:Hid _:=e1;have E2:Hid _:=e2;clear e1 e2;have HS:=Kh gI.out hp;rw[Hm.out] at HS;have xN:Hid (Own _ _ _ _):=HS;clear HS;go_wp2_with (go_at_call 248;refine(jw _ _ _ _ _ _).mono ?_;rintro e w' ⟨rfl,rfl⟩;rw[hd]);go_ret3
    refine⟨U (Z ⟨g,0,Y⟩) ms.length c,by rw[E1.out,E2.out];rfl,?_,λh=>absurd E2.out h,λ_=>?_⟩
    .have hB2:=(cT.out.setCell (p:=⟨g,p*5+1,Y⟩) oU.1 (O J 1)).setCell (p:=⟨g,p*5+2,Y⟩) oU.1 (O J (l2+1))
     exact hB2.alloc (by have:=cT.out.size;simpa using this) _
    .rw[xL,if_pos E1.out,Hm.out]
     exact xN.out.below ((Ia _ _).alloc (By _) _)
   .have E1:Hid (iT ms p true=false):=(show iT ms p true=false by unfold iT;rw[Hm.out];simp only[hd,dK];rfl)
    have E2:Hid (iU ms p true=3):=(show iU ms p true=3 by unfold iU;rw[Hm.out];simp only[hd,dK];rfl);go_wp2_with (go_at_call 248;refine(jw _ _ _ _ _ _).mono ?_;rintro e w' ⟨rfl,rfl⟩;rw[hd]);go_ret3
    exact⟨U Y 0 0,by rw[E1.out,E2.out];rfl,cT.out.alloc cT.out.size _,λ_=>rfl,λh=>by rw[E2.out] at h;cases h⟩
theorem Tryz.XM:(Tryz.prog.info? 9).map (λi=>(i.zero,i.size,i.bytes))=Z (Z (I ⟨#[]⟩),1,16):=by kernel_rfl
abbrev qL(base:Nat)(w:World)(v:Value)(l:List ByteArray):Prop:=w.ownsRow base 9 1 v l.length (l.map I)
theorem Kj(base:Nat)(w:World):qL base w (U Y 0 0) []:=World.ownsRow_nil w base 9 1
theorem qL.below{base:Nat}{w w':World}{v:Value}{l:List ByteArray}(h:qL base w v l)(hb:Below w.heap.size w w'):qL base w' v l:=by
 rcases h.2 with⟨rfl,h0⟩|⟨g,c,cur,rfl,dN,hg,fa,dO,cJ,aV⟩
 .exact⟨h.1,.inl ⟨rfl,h0⟩⟩
 .have aB:=(Array.getElem?_eq_some_iff.1 hg).1
  exact⟨h.1,.inr ⟨g,c,cur,rfl,dN,(hb.block g aB).trans hg,fa,dO,cJ,aV⟩⟩
theorem qL.lt{base:Nat}{w:World}{v:Value}{l:List ByteArray}(h:qL base w v l)(k:Nat)(hk:v.ownBlock=Z k):base<=k/\k<w.heap.size:=IY h k hk
theorem uU{base:Nat}{w:World}{v:Value}{l:List ByteArray}{s:ByteArray}(h:w.ownsRow base 9 1 v (l.length+1) (l.map I++[I s])):qL base w v (l++[s]):=by
 show w.ownsRow base 9 1 v (l++[s]).length ((l++[s]).map I);rw[List.length_append,QG];exact h
def isLive(m:Mem):Bool:=m.state==1||m.state==2
def dY(ms:List Mem):List ByteArray:=(ms.filter isLive).map Mem.name
theorem Ei(ms:List Mem)(k:Nat)(hk:k<ms.length)(h:isLive (ms.getD k dm)=true):dY (ms.take (k+1))=dY (ms.take k)++[(ms.getD k dm).name]:=by
 have e:ms.getD k dm=ms[k]:=by simp[Io,Ic hk]
 rw[e] at h ⊢;unfold dY;rw[Iw hk,JL,QG];simp[h]
theorem Kk(ms:List Mem)(k:Nat)(hk:k<ms.length)(h:isLive (ms.getD k dm)=false):dY (ms.take (k+1))=dY (ms.take k):=by
 have e:ms.getD k dm=ms[k]:=by simp[Io,Ic hk]
 rw[e] at h;unfold dY;rw[Iw hk,JL,QG];simp[h]
theorem Ej(ms:List Mem)(k:Nat):(dY (ms.take k)).length<=k:=by
 unfold dY;rw[List.length_map];exact Nat.le_trans (List.length_filter_le _ _) (List.length_take_le _ _)
theorem Ek(ms:List Mem)(v:Value)(w:World)(hv:Sl w v ms)(h0:aM ms=0) :
 Calls be 105 #[v] w λe w'=>∃v',e=sh (Il #[v',O J 0])/\Hid (qL w.heap.size w' v' (dY ms))/\Below w.heap.size w w':=by
 obtain⟨i0,eP,cE,gn,ga⟩:=info_parts Tryz.XM;have he:(aM ms !=0)=false:=by simpa using h0
 have hz:=aI h0;have hlen:=hz.1;have HV:Hid (Sl w v ms):=hv;obtain⟨pa,ca,rfl,_,ha⟩:=hv;have HA:Hid _:=ha;clear ha h0 hz;generalize qK:ms.length=n at *;have HN:Hid (ms.length=n):=qK;clear qK;go_enter Tryz.func105,Tryz.ntmps105;go_wp2_with fail;refine(aR ms _ _ HV.out).mono ?_;rintro e w1 ⟨rfl,an⟩;go_wp2_with fail;go_loopw [5,15] (λkn i w'=>∃k:Nat,k<=n/\i=O J k/\Below w.heap.size w w'/\Hid (qL w.heap.size w' kn (dY (ms.take k)))) (λ_ i _=>n-(intOf i).toNat)
 case atStart=>exact⟨0,IF _,rfl,an,Kj _ _⟩
 case round=>
  clear an;obtain⟨k,hk,rfl,aL,HO⟩:=hrel;obtain⟨dJ,k8⟩:=cD aL;have bb:=aL.size;by_cases aB:k<n
  .obtain⟨b1,o1,hZ,dX,kF⟩:∃b off,pa=Z ⟨b,off,Y⟩/\b<w.heap.size/\Row w b off ms:=by
    rcases HA.out with h|h
    .have:=HN.out;rw[h] at this;simp at this;omega
    .exact h
   subst hZ;obtain⟨c0,c1,c2,c3,c4⟩:=kF k (by rw[HN.out];exact aB);clear kF;have HY:Hid (isLive (ms.getD k dm)=true->dY (ms.take (k+1))=dY (ms.take k)++[(ms.getD k dm).name]):=λh=>Ei ms k (by rw[HN.out];exact aB) h;have HX:Hid (isLive (ms.getD k dm)=false->dY (ms.take (k+1))=dY (ms.take k)):=λh=>Kk ms k (by rw[HN.out];exact aB) h;have Xs:=Ej ms k;generalize ms.getD k dm=mk at *;obtain⟨nk,sk,lk,ak,vk⟩:=mk;simp only at c0 c1 c2 c3 c4;have j3:sk=1\/sk=2\/(sk≠1/\sk≠2):=by omega
   rcases j3 with h|h|⟨h,h'⟩
   .subst h
    have TM:Hid (dY (ms.take (k+1))=dY (ms.take k)++[nk]):=HY.out rfl;clear HY HX;generalize dY (ms.take k)=L at *;go_wp2_with (at_builtin;refine Ja _ rfl _ _ 111 rfl w.heap.size 9 i0 _ 1 16 Jn eP cE gn ga rfl (by omega) _ L.length (L.map I) rfl ?hown ⟨wr.heap.size+1,0,Y⟩ 1 1 [I nk] rfl rfl ?hnews (by intro u hu;simp at hu;subst hu;rfl) ?h63 ?hbytes ?hbase ?_)
    case hown=>exact HO.out.below (((Ia _ _).alloc (By _) _).alloc (by simp) _)
    case hnews=>(intro j u hj;rw[Addr.add_lit];have hh:=af (Ie (wr.alloc (AI #[I nk,O J 1,O J lk,O J ak,AT vk] 70)) (AI #[I nk] 9)) (0+j);rw[show(wr.alloc (AI #[I nk,O J 1,O J lk,O J ak,AT vk] 70)).heap.size=wr.heap.size+1 by simp] at hh;exact hh.trans (by simpa using hj))
    case h63=>(unfold Ii;omega)
    case hbytes=>omega
    case hbase=>first|omega|(simp;omega)
    intro v' w2 r1 r2 r3;have jF:Hid (qL w.heap.size w2 v' (L++[nk])):=uU r1;have bD:Hid (Below w.heap.size w w2):=((aL.alloc bb _).alloc (by simp;omega) _).grown r2 (by simp;omega) (λj hj=>(HO.out.lt j hj).1);go_wp2_with fail;exact⟨⟨k+1,by omega,by go_num,bD.out,by rw[TM.out];exact jF⟩,by simp[intOf];omega⟩
   .subst h
    have TM:Hid (dY (ms.take (k+1))=dY (ms.take k)++[nk]):=HY.out rfl;clear HY HX;generalize dY (ms.take k)=L at *;go_wp2_with (at_builtin;refine Ja _ rfl _ _ 111 rfl w.heap.size 9 i0 _ 1 16 Jn eP cE gn ga rfl (by omega) _ L.length (L.map I) rfl ?hown ⟨wr.heap.size+1,0,Y⟩ 1 1 [I nk] rfl rfl ?hnews (by intro u hu;simp at hu;subst hu;rfl) ?h63 ?hbytes ?hbase ?_)
    case hown=>exact HO.out.below (((Ia _ _).alloc (By _) _).alloc (by simp) _)
    case hnews=>(intro j u hj;rw[Addr.add_lit];have hh:=af (Ie (wr.alloc (AI #[I nk,O J 2,O J lk,O J ak,AT vk] 70)) (AI #[I nk] 9)) (0+j);rw[show(wr.alloc (AI #[I nk,O J 2,O J lk,O J ak,AT vk] 70)).heap.size=wr.heap.size+1 by simp] at hh;exact hh.trans (by simpa using hj))
    case h63=>(unfold Ii;omega)
    case hbytes=>omega
    case hbase=>first|omega|(simp;omega)
    intro v' w2 r1 r2 r3;have jF:Hid (qL _ _ _ _):=uU r1;have bD:Hid _:=((aL.alloc bb _).alloc (by simp;omega) _).grown r2 (by simp;omega) (λj hj=>(HO.out.lt j hj).1);go_wp2_with fail;exact⟨⟨k+1,by omega,by go_num,bD.out,by rw[TM.out];exact jF⟩,by simp[intOf];omega⟩
   .have e1:(sk==1)=false:=by simpa using h
    have e2:(sk==2)=false:=by simpa using h'
    have HX2:Hid _:=HX.out (by simp[isLive,h,h']);clear HY HX h h';go_wp2_with fail;go_roundw
    case rel=>exact⟨k+1,by omega,by go_num,aL.alloc bb _,by rw[HX2.out];exact HO.out.below ((Ia _ _).alloc (By _) _)⟩
    case measure=>simp[intOf];omega
  .have HF:Hid (qL w.heap.size wr u5 (dY ms)):=by
    have h:=HO.out;rw[List.take_of_length_le (by rw[HN.out];omega)] at h;exact h
   go_wp2_with fail;go_ret2;exact⟨u5,rfl,HF,aL⟩
end Go.Proofs.YtfidjlcdlakceaaGreatDoor
