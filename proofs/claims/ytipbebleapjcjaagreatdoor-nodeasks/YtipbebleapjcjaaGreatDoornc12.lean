import Derived.Test.YtipbebleapjcjaaGreatDoornc1
set_option maxHeartbeats 3200000
set_option maxRecDepth 100000
open ByteArray renaming empty->Ie,mk->J9,size_append->Om
open Go.Ending renaming returned->Ia
open Go.Obj renaming cells->Ib
open Go.Proofs.Tryz renaming prog->AT
open Go.RowKit.Below renaming refl->If
open Go.Value renaming agg->Iu,bool->Ic,int->O,slice->sh,string->I,tuple->Ir
open Nat renaming le_refl->By,lt_succ_iff_lt_or_eq->IL,not_lt_zero->IV,zero_le->Iw
open Option renaming none->U,some->AI
open Go.Proofs.Tryz
namespace Go.Proofs.YtipbebleapjcjaaGreatDoor
open Go.RowKit
structure Qu where
 service:ByteArray
 tag:ByteArray
 node:ByteArray
 mM:ByteArray
def Qu.ok(q:Qu):Prop:=q.service.size<=maxLen/\q.tag.size<=maxLen/\q.node.size<=maxLen/\q.mM.size<=maxLen
abbrev qU:ByteArray:=⟨#[115,101,114,118,105,99,101]⟩
abbrev qV:ByteArray:=⟨#[110,111,100,101]⟩
abbrev qm:ByteArray:=⟨#[109,101,115,104]⟩
def yj(x:ByteArray):Bool:=Lib.containsS [qU,qV] x
def rZ(x:ByteArray):Bool:=Lib.containsS [qU,qV,qm] x
def uQ(q:Qu):Bool:=yj q.node||rZ q.tag||rZ q.service||rZ q.mM
theorem Na(x:ByteArray)(zs:List ByteArray)(g c:Nat)(w:World)(hn:zs.length<=1000)(hc:∀j,j<zs.length->w.cell? ⟨g,0+j,U⟩=AI (I (zs.getD j Ie))) :
 Calls AT 226 #[I x,sh (AI ⟨g,0,U⟩) zs.length c] w λe w'=>e=Ia (Ic (Lib.containsS zs x))/\w'=w:=by
 have HC:Hid (Calls AT 227 #[sh (AI ⟨g,0,U⟩) zs.length c,I x] w λe w'=>e=Ia (Ic (Lib.containsS zs x))/\w'=w):=(show Calls _ _ _ _ _ by
  have h:=Tryz.slices_Contains_string g 0 zs.length c zs x w (By _) (by omega) hc
  rwa [List.take_length] at h)
 clear hc;go_enter func226,ntmps226;go_wp2_with (go_at_call 227;refine HC.out.mono ?_;rintro e w' ⟨rfl,rfl⟩);go_ret;exact⟨rfl,rfl⟩
theorem yD(W:World){cs:Array Value}{t:TypeId}{g:Nat}(hg:g=W.heap.size):(W.alloc (Ib cs t)).heap[g]?=AI (Ib cs t (0,0)):=by
 subst hg;exact heap_alloc_new W _
theorem aos(x:ByteArray)(W:World)(g:Nat)(hg:W.heap[g]?=AI (Ib #[I qU,I qV] 9 (0,0))) :
 Calls AT 226 #[I x,sh (AI ⟨g,0,U⟩) 2 2] W λe w'=>e=Ia (Ic (yj x))/\w'=W:=
 Na x [qU,qV] g 2 W (by simp) (λj hj=>by
  rw[fi hg]
  match j,hj with
  |0,_=>rfl
  |1,_=>rfl)
theorem ac4(x:ByteArray)(W:World)(g:Nat)(hg:W.heap[g]?=AI (Ib #[I qU,I qV,I qm] 9 (0,0))) :
 Calls AT 226 #[I x,sh (AI ⟨g,0,U⟩) 3 3] W λe w'=>e=Ia (Ic (rZ x))/\w'=W:=
 Na x [qU,qV,qm] g 3 W (by simp) (λj hj=>by
  rw[fi hg]
  match j,hj with
  |0,_=>rfl
  |1,_=>rfl
  |2,_=>rfl)
theorem Li{P:Prop}(h:P:=by
 go_wp2_with fail;go_ret;refine⟨mW HR.out.symm,?_⟩;repeat(first|exact If _ _|refine Below.alloc ?_ (by simp<;>omega) _)):P:=h
theorem Nb(q:Qu)(w:World) :
 Calls AT 186 #[Iu #[I q.service,I q.tag,I q.node,I q.mM]] w λe w'=>e=Ia (Ic (uQ q))/\Below w.heap.size w w':=by
 obtain⟨sv,tg,nd,ce⟩:=q;have HW:Hid (uQ ⟨sv,tg,nd,ce⟩=(yj nd||rZ tg||rZ sv||rZ ce)):=rfl;generalize uQ ⟨sv,tg,nd,ce⟩=r at *;have HT:Hid (yj nd=true->r=true):=λh=>by rw[HW.out,h];rfl
 have RY:Hid (yj nd=false->rZ tg=true->r=true):=λh h2=>by rw[HW.out,h,h2];rfl
 have HT3:Hid (yj nd=false->rZ tg=false->rZ sv=true->r=true):=λh h2 h3=>by rw[HW.out,h,h2,h3];rfl
 have HT4:Hid (yj nd=false->rZ tg=false->rZ sv=false->r=rZ ce):=λh h2 h3=>by rw[HW.out,h,h2,h3];rfl
 clear HW;go_enter func186,ntmps186;go_wp2_with fail;refine(aos _ _ _ (yD _ (by simp))).mono ?_;rintro e w' ⟨rfl,rfl⟩;rcases h1:yj nd with _|_
 .go_wp2_with fail
  refine(ac4 _ _ _ (yD _ (by simp))).mono ?_;rintro e w' ⟨rfl,rfl⟩;rcases h2:rZ tg with _|_
  .go_wp2_with fail
   refine(ac4 _ _ _ (yD _ (by simp))).mono ?_;rintro e w' ⟨rfl,rfl⟩;rcases h3:rZ sv with _|_
   .have HR:Hid (r=rZ ce):=HT4.out h1 h2 h3
    go_wp2_with fail;refine(ac4 _ _ _ (yD _ (by simp))).mono ?_;rintro e w' ⟨rfl,rfl⟩;exact Li
   .have HR:Hid (r=true):=HT3.out h1 h2 h3
    exact Li
  .have HR:Hid (r=true):=RY.out h1 h2
   exact Li
 .have HR:Hid (r=true):=HT.out h1
  exact Li
def zX(q:Qu):Bool:=(decide (q.service.size=0)==decide (q.node.size=0))||(decide (q.tag.size≠0)&&decide (q.service.size=0))
def pt(q:Qu):Int:=
 if zX q=true then 1 else if[q.service,q.tag,q.node,q.mM].all pK=false then 1 else if uQ q=true then 7 else 0
theorem agY(q:Qu)(W:World)(g:Nat)(hq:q.ok)(hg:W.heap[g]?=AI (Ib #[I q.service,I q.tag,I q.node,I q.mM] 9 (0,0))) :
 Calls AT 164 #[sh (AI ⟨g,0,U⟩) 4 4] W λe w'=>e=Ia (Ic ([q.service,q.tag,q.node,q.mM].all pK))/\w'=W:=
 Dj [q.service,q.tag,q.node,q.mM] g 4 W (λj hj=>by
  rw[fi hg]
  match j,hj with
  |0,_=>rfl
  |1,_=>rfl
  |2,_=>rfl
  |3,_=>rfl) (λj=>by
  match j with
  |0=>exact hq.1
  |1=>exact hq.2.1
  |2=>exact hq.2.2.1
  |3=>exact hq.2.2.2
  |_+4=>simp[List.getD]) (by simp)
theorem SK(q:Qu)(w:World)(hq:q.ok) :
 Calls AT 140 #[Iu #[I q.service,I q.tag,I q.node,I q.mM]] w λe w'=>e=Ia (O .i64 (pt q))/\Below w.heap.size w w':=by
 have HLB:Hid (∀g W,W.heap[g]?=AI (Ib #[I q.service,I q.tag,I q.node,I q.mM] 9 (0,0))->Calls AT 164 #[sh (AI ⟨g,0,U⟩) 4 4] W λe w'=>e=Ia (Ic ([q.service,q.tag,q.node,q.mM].all pK))/\w'=W):=λg W h=>agY q W g hq h;have HWD:Hid (∀W,Calls AT 186 #[Iu #[I q.service,I q.tag,I q.node,I q.mM]] W λe w'=>e=Ia (Ic (uQ q))/\Below W.heap.size W w'):=λW=>Nb q W;have sr:Hid (zX q=true->pt q=1):=λh=>by unfold pt;rw[if_pos h]
 have te:Hid (zX q=false->[q.service,q.tag,q.node,q.mM].all pK=false->pt q=1):=λh h2=>by unfold pt;rw[if_neg (by rw[h];simp),if_pos h2]
 have Rl:Hid (zX q=false->[q.service,q.tag,q.node,q.mM].all pK=true->pt q=if uQ q=true then 7 else 0):=λh h2=>by unfold pt;rw[if_neg (by rw[h];simp),if_neg (by rw[h2];simp)]
 have HF:Hid (zX q=((decide (q.service.size=0)==decide (q.node.size=0))||(decide (q.tag.size≠0)&&decide (q.service.size=0)))):=rfl;generalize[q.service,q.tag,q.node,q.mM].all pK=lb at *;generalize uQ q=wb at *;generalize pt q=r at *;generalize zX q=fr at *;obtain⟨sv,tg,nd,ce⟩:=q;simp only at HLB HWD HF ⊢;clear hq;by_cases hs:sv.size=0<;>by_cases hn:nd.size=0<;>by_cases ht:tg.size=0;all_goals
  have zy:=HF.out;simp only[hs,hn,ht,decide_true,decide_false,Bool.or_false,Bool.or_true,beq_self_eq_true,ne_eq,not_true_eq_false,not_false_eq_true,Bool.and_true,Bool.and_false] at zy;clear HF;first|(have es:=nB hs;subst es)|(obtain⟨s1,s2⟩:=oC hs)
  first|(have en:=nB hn;subst en)|(obtain⟨n1,n2⟩:=oC hn)
  first|(have et:=nB ht;subst et)|(obtain⟨t1,t2⟩:=oC ht)
  clear hs hn ht;go_enter func140,ntmps140;go_wp2_with fail
 all_goals first
  |(go_ret
    exact⟨mN (sr.out zy).symm,(If _ _).alloc (By _) _⟩)
  |(have GO:Hid (fr=false):=(show fr=false from zy)
    clear zy;refine(HLB.out _ _ (yD _ (by simp))).mono ?_;rintro e w' ⟨rfl,rfl⟩;rcases hl:lb with _|_
    .have HR:Hid (r=1):=te.out GO.out hl
     go_wp2_with fail;go_ret;exact⟨mN HR.out.symm,((If _ _).alloc (By _) _).alloc (by simp) _⟩
    .have HR:Hid (r=if wb=true then 7 else 0):=Rl.out GO.out hl
     go_wp2_with fail;refine(HWD.out _).mono ?_;rintro e w1 ⟨rfl,mO⟩;have mZ:=mO.size;simp at mZ;rcases hw:wb with _|_
     .rw[hw] at HR
      go_wp2_with fail;go_ret;exact⟨mN HR.out.symm,(((If _ _).alloc (By _) _).alloc (by simp) _).trans (mO.mono (by simp;omega))⟩
     .rw[hw] at HR
      go_wp2_with fail;go_ret;exact⟨mN HR.out.symm,(((If _ _).alloc (By _) _).alloc (by simp) _).trans (mO.mono (by simp;omega))⟩)
def vB(q:Qu):List ByteArray:=[q.service,q.tag,q.node,q.mM]
def wj(q:Qu)(j:Nat):Bool:=if j=2 then yj ((vB q).getD j Ie) else rZ ((vB q).getD j Ie)
theorem akJ(q:Qu)(h:∀j,j<4->wj q j=false):uQ q=false:=by
 have h0:rZ q.service=false:=h 0 (by omega);have h1:rZ q.tag=false:=h 1 (by omega);have h2:yj q.node=false:=h 2 (by omega);have h3:rZ q.mM=false:=h 3 (by omega);unfold uQ;rw[h0,h1,h2,h3];rfl
theorem akK(q:Qu)(j:Nat)(hj:j<4)(h:wj q j=true):uQ q=true:=by
 unfold uQ
 match j,hj,h with
 |0,_,h=>have:rZ q.service=true:=h;rw[this];simp
 |1,_,h=>have:rZ q.tag=true:=h;rw[this];simp
 |2,_,h=>have:yj q.node=true:=h;rw[this];simp
 |3,_,h=>have:rZ q.mM=true:=h;rw[this];simp
theorem Fm(x:ByteArray):yj x=true↔x=qU\/x=qV:=by
 unfold yj;rw[Lib.containsS_iff];simp
theorem Fo(x:ByteArray):rZ x=true↔x=qU\/x=qV\/x=qm:=by
 unfold rZ;rw[Lib.containsS_iff];simp
theorem SM{s:ByteArray}(l:List UInt8)(h:s≠mk l):(s.toList==l)=false/\¬ s.toList=l:=by
 have h2:¬ s.toList=l:=λe=>h (by rw[<- e,Lib.toList_data,mk_data]);exact⟨by simpa using h2,h2⟩
abbrev Aw:List UInt8:=[115,101,114,118,105,99,101]
abbrev Ax:List UInt8:=[110,111,100,101]
abbrev tT:List UInt8:=[109,101,115,104]
theorem Lj{s:ByteArray}(h:s≠qU):(s.toList==[115,101,114,118,105,99,101])=false/\¬ s.toList=[115,101,114,118,105,99,101]:=SM Aw h
theorem Es{s:ByteArray}(h:s≠qV):(s.toList==[110,111,100,101])=false/\¬ s.toList=[110,111,100,101]:=SM Ax h
theorem Lk{s:ByteArray}(h:s≠qm):(s.toList==[109,101,115,104])=false/\¬ s.toList=[109,101,115,104]:=SM tT h
theorem Du(q:Qu)(w:World)(hq:q.ok) :
 Calls AT 85 #[Iu #[I q.service,I q.tag,I q.node,I q.mM]] w λe w'=>e=Ia (O .i64 (pt q))/\Below w.heap.size w w':=by
 have sr:Hid (zX q=true->pt q=1):=λh=>by unfold pt;rw[if_pos h]
 have te:Hid (zX q=false->(vB q).all pK=false->pt q=1):=λh h2=>by unfold pt;rw[if_neg (by rw[h];simp)];exact if_pos h2
 have Rl:Hid (zX q=false->(vB q).all pK=true->pt q=if uQ q=true then 7 else 0):=λh h2=>by unfold pt;rw[if_neg (by rw[h];simp),if_neg (by rw[show[q.service,q.tag,q.node,q.mM]=vB q from rfl,h2];simp)]
 have HF:Hid (zX q=((decide (q.service.size=0)==decide (q.node.size=0))||(decide (q.tag.size≠0)&&decide (q.service.size=0)))):=rfl;have HZ:Hid (∀j,j<4->((vB q).getD j Ie).size<=maxLen):=λj hj=>by
  match j,hj with
  |0,_=>exact hq.1
  |1,_=>exact hq.2.1
  |2,_=>exact hq.2.2.1
  |3,_=>exact hq.2.2.2
 have vu:Hid ((∀j,j<4->pK ((vB q).getD j Ie)=true)->(vB q).all pK=true):=λh=>by
  have h0:=h 0 (by omega);have h1:=h 1 (by omega);have h2:=h 2 (by omega);have h3:=h 3 (by omega);simp only[vB,List.getD,List.getElem?_cons_zero,List.getElem?_cons_succ,Option.getD_some] at h0 h1 h2 h3;simp[vB,h0,h1,h2,h3]
 have HAF:Hid (∀j,j<4->pK ((vB q).getD j Ie)=false->(vB q).all pK=false):=λj hj h=>by
  rw[List.all_eq_false];refine⟨(vB q).getD j Ie,?_,by rw[h];simp⟩
  match j,hj with
  |0,_=>simp[vB]
  |1,_=>simp[vB]
  |2,_=>simp[vB]
  |3,_=>simp[vB]
 have HWA:Hid ((∀j,j<4->wj q j=false)->uQ q=false):=akJ q;have HWO:Hid (∀j,j<4->wj q j=true->uQ q=true):=akK q;have HWJ:Hid (∀j,wj q j=if j=2 then yj ((vB q).getD j Ie) else rZ ((vB q).getD j Ie)):=λj=>rfl;have HC:Hid (∀(g:Nat) (W:World),W.heap[g]?=AI (Ib #[I q.service,I q.tag,I q.node,I q.mM] 9 (0,0))->∀j,j<4->W.cell? ⟨g,j,U⟩=AI (I ((vB q).getD j Ie))):=λg W hg j hj=>by
  rw[fi hg]
  match j,hj with
  |0,_=>rfl
  |1,_=>rfl
  |2,_=>rfl
  |3,_=>rfl
 generalize hwf:wj q=wf at *;generalize hgf:(λj=>(vB q).getD j Ie)=gf at *;have aot:∀j,(vB q).getD j Ie=gf j:=λj=>by rw[<- hgf]
 simp only[aot] at HZ vu HAF HWJ HC;clear hwf hgf aot hq;generalize(vB q).all pK=lb at *;generalize uQ q=wb at *;generalize pt q=r at *;generalize zX q=fr at *;obtain⟨sv,tg,nd,ce⟩:=q;simp only at HC HF ⊢;by_cases hs:sv.size=0<;>by_cases hn:nd.size=0<;>by_cases ht:tg.size=0;all_goals
  have zy:=HF.out;simp only[hs,hn,ht,decide_true,decide_false,Bool.or_false,Bool.or_true,beq_self_eq_true,ne_eq,not_true_eq_false,not_false_eq_true,Bool.and_true,Bool.and_false] at zy;clear HF;first|(have es:=nB hs;subst es)|(obtain⟨s1,s2⟩:=oC hs)
  first|(have en:=nB hn;subst en)|(obtain⟨n1,n2⟩:=oC hn)
  first|(have et:=nB ht;subst et)|(obtain⟨t1,t2⟩:=oC ht)
  clear hs hn ht;go_enter func85,ntmps85;go_wp2_with fail
 all_goals first
  |(go_ret
    exact⟨mN (sr.out zy).symm,(If _ _).alloc (By _) _⟩)
  |(have GO:Hid (fr=false):=(show fr=false from zy)
    clear zy;generalize hWW:World.alloc (World.alloc w _) _=WW at *;have HCW:=HC.out (w.heap.size+1) WW (by rw[<- hWW];exact yD _ (by simp));have HCC:Hid (∀j,j<4->WW.cell? ⟨w.heap.size+1,j,U⟩=AI (I (gf j))):=HCW;have rW:Hid (Below w.heap.size w WW):=(show Below w.heap.size w WW by rw[<- hWW];exact((If _ _).alloc (By _) _).alloc (by simp) _);clear HCW HC hWW;go_loop [4] (λi=>∃k:Nat,k<=4/\i=O .i64 k/\Hid (∀j,j<k->pK (gf j)=true)) (λi=>4-(intOf i).toNat)
    case atStart=>exact⟨0,Iw _,rfl,λj h=>absurd h (IV _)⟩
    case round=>
     obtain⟨k,hk,rfl,hz⟩:=hrel;by_cases mS:k<4
     .have hc:=HCC.out k mS
      have Ci:=HZ.out k mS;have o6:Hid (pK (gf k)=true->∀j,j<k+1->pK (gf j)=true):=λh j hj=>by
       rcases IL.1 hj with h2|rfl
       .exact hz.out j h2
       .exact h
      have Sw:Hid (pK (gf k)=false->r=1):=λh=>te.out GO.out (HAF.out k mS h);generalize gf k=s at *;by_cases An:s=Ie
      .subst An
       have tu:Hid (∀j,j<k+1->pK (gf j)=true):=o6.out (by simp[pK]);clear o6 Sw;go_wp2_with fail;go_round
       case rel=>exact⟨k+1,by omega,by go_num,tu.out⟩
       case measure=>simp[intOf];omega
      .have HE:Hid (pK s=mT s):=(show pK s=mT s by simp[pK,An])
       obtain⟨h1,h2⟩:=o0 An;have h3:¬ s.toList=[]:=λe=>h2 (by rw[e,Lib.toList_data];rfl);have h4:(s.toList==[])=false:=by simpa using h3
       clear An;rcases hl:mT s with _|_
       .have HR:Hid (r=1):=Sw.out (by rw[HE.out,hl])
        go_wp2_with (go_at_call 11;refine(mV _ _ Ci).mono ?_;rintro e w' ⟨rfl,rfl⟩;rw[hl]);go_ret;exact⟨mN HR.out.symm,rW.out⟩
       .have tu:Hid (∀j,j<k+1->pK (gf j)=true):=o6.out (by rw[HE.out,hl])
        clear o6 Sw;go_wp2_with (go_at_call 11;refine(mV _ _ Ci).mono ?_;rintro e w' ⟨rfl,rfl⟩;rw[hl]);go_round
        case rel=>exact⟨k+1,by omega,by go_num,tu.out⟩
        case measure=>simp[intOf];omega
     .have HRW:Hid (r=if wb=true then 7 else 0):=Rl.out GO.out (vu.out λj hj=>hz.out j (by omega))
      clear sr te Rl vu HAF hz;go_wp2_with fail;clear mS hk;go_loop [5] (λi=>∃k:Nat,k<=4/\i=O .i64 k/\Hid (∀j,j<k->wf j=false)) (λi=>4-(intOf i).toNat)
      case atStart=>exact⟨0,Iw _,rfl,λj h=>absurd h (IV _)⟩
      case round=>
       obtain⟨m,hm,rfl,hz⟩:=hrel;by_cases mS:m<4
       .have hc:=HCC.out m mS
        have qu:=HWJ.out m;have o6:Hid (wf m=false->∀j,j<m+1->wf j=false):=λh j hj=>by
         rcases IL.1 hj with h2|rfl
         .exact hz.out j h2
         .exact h
        have Sw:Hid (wf m=true->r=7):=λh=>by rw[HRW.out,HWO.out m mS h];rfl
        generalize gf m=s at *;generalize wf m=b at *;by_cases h2:m=2
        .subst h2
         rw[if_pos rfl] at qu;rcases hb:yj s with _|_
         .have nK:=λh=>(Bool.eq_false_iff.1 hb) ((Fm s).2 h)
          obtain⟨a1,a2⟩:=Lj (λe=>nK (.inl e));obtain⟨b1,b2⟩:=Es (λe=>nK (.inr e));have tu:Hid (∀j,j<2+1->wf j=false):=o6.out (by rw[qu,hb]);clear o6 Sw qu nK hb;go_wp2_with fail;go_round
          case rel=>exact⟨2+1,by omega,by go_num,tu.out⟩
          case measure=>simp[intOf]
         .have HR:Hid (r=7):=Sw.out (by rw[qu,hb])
          clear o6 Sw qu;rcases(Fm s).1 hb with rfl|rfl;all_goals
           clear hb;go_wp2_with fail;go_ret;exact⟨mN HR.out.symm,rW.out⟩
        .rw[if_neg h2] at qu
         have h5:((m:Int)==2)=false:=by simp;omega
         have h6:¬ (m:Int)=2:=by omega
         rcases hb:rZ s with _|_
         .have nK:=λh=>(Bool.eq_false_iff.1 hb) ((Fo s).2 h)
          obtain⟨a1,a2⟩:=Lj (λe=>nK (.inl e));obtain⟨b1,b2⟩:=Es (λe=>nK (.inr (.inl e)));obtain⟨c1,c2⟩:=Lk (λe=>nK (.inr (.inr e)));have tu:Hid (∀j,j<m+1->wf j=false):=o6.out (by rw[qu,hb]);clear o6 Sw qu nK hb h2;go_wp2_with fail;go_round
          case rel=>exact⟨m+1,by omega,by go_num,tu.out⟩
          case measure=>simp[intOf];omega
         .have HR:Hid (r=7):=Sw.out (by rw[qu,hb])
          clear o6 Sw qu h2;rcases(Fo s).1 hb with rfl|rfl|rfl;all_goals
           clear hb;go_wp2_with fail;go_ret;exact⟨mN HR.out.symm,rW.out⟩
       .have HR:Hid (r=0):=(show r=0 by rw[HRW.out,HWA.out λj hj=>hz.out j (by omega)];rfl)
        go_wp2_with fail;go_ret;exact⟨mN HR.out.symm,rW.out⟩)
def bytes(s:ByteArray):List UInt8:=s.data.toList
def opt(s:ByteArray):List (List UInt8):=if s.size=0 then[] else[bytes s]
def yE(q:Qu):List (List UInt8):=
 if q.node.size=0 then opt q.tag++(opt q.service++([Aw]++(opt q.mM++[tT]))) else opt q.node++([Ax]++(opt q.mM++[tT]))
def prt(q:Qu):ByteArray:=mk (jn (yE q))
def rH(q:Qu):Int:=if pt q=0 then nS (prt q) else pt q
def tN(q:Qu):ByteArray:=if rH q=0 then prt q else⟨#[]⟩
theorem oW{s:ByteArray}(h:s.size≠0):opt s=[bytes s]:=if_neg h
theorem rQ{s:ByteArray}(h:s.size=0):opt s=[]:=if_pos h
theorem tX{q:Qu}(h:pt q=0):zX q=false/\pK q.service=true/\pK q.tag=true/\pK q.node=true/\pK q.mM=true/\uQ q=false:=by
 unfold pt at h;split at h
 .omega
 .rename_i h1
  split at h
  .omega
  .rename_i h2
   split at h
   .omega
   .rename_i h3
    have DR:[q.service,q.tag,q.node,q.mM].all pK=true:=by simpa using h2
    simp only[List.all_cons,List.all_nil,Bool.and_true,Bool.and_eq_true] at DR;exact⟨by simpa using h1,DR.1,DR.2.1,DR.2.2.1,DR.2.2.2,by simpa using h3⟩
theorem pV{s:ByteArray}(h:pK s=true):s.size<=30:=by
 unfold pK at h;simp only[Bool.or_eq_true,decide_eq_true_eq] at h;rcases h with rfl|h
 .decide
 .unfold mT at h
  simp only[Bool.and_eq_true,decide_eq_true_eq] at h;exact h.1.2
theorem ac5(a b:ByteArray):a++b=mk (bytes a++bytes b):=by
 rw[<- mk_data (a++b)];simp[bytes]
theorem Ll{w w1:World}{a b c d:Value}{t:TypeId}(h:Below (w.alloc (Ib #[a,b,c,d] t)).heap.size (w.alloc (Ib #[a,b,c,d] t)) w1) :
 w1.cell? ⟨w.heap.size,0,U⟩=AI a/\w1.cell? ⟨w.heap.size,1,U⟩=AI b/\w1.cell? ⟨w.heap.size,2,U⟩=AI c/\w1.cell? ⟨w.heap.size,3,U⟩=AI d/\Hid (Below w.heap.size w w1)/\w.heap.size<w1.heap.size:=by
 have hg:w1.heap[w.heap.size]?=AI (Ib #[a,b,c,d] t (0,0)):=(h.block _ (by simp)).trans (heap_alloc_new w _);exact⟨fi hg 0,fi hg 1,fi hg 2,fi hg 3,((If _ _).alloc (By _) _).trans (h.mono (by simp)),(Array.getElem?_eq_some_iff.1 hg).1⟩
theorem aud:(J9 #[46,115,101,114,118,105,99,101,46]).size=9:=rfl
theorem aue:(J9 #[109,101,115,104]).size=4:=rfl
theorem auf:(J9 #[46]).size=1:=rfl
theorem aug:(J9 #[46,110,111,100,101,46]).size=6:=rfl
theorem BI{a b:ByteArray}{x y:Int}(h1:a=b)(h2:x=y):Ending.returned (Ir #[I a,O .i64 x])=Ia (Ir #[I b,O .i64 y]):=by rw[h1,h2]
theorem Lm{E:Int}{T S:ByteArray}(h:S=if E=0 then T else⟨#[]⟩)(h0:E=0):S=T:=by rw[h,if_pos h0]
theorem yF(q:Qu)(w:World)(hq:q.ok) :
 Calls AT 46 #[Iu #[I q.service,I q.tag,I q.node,I q.mM]] w λe w'=>e=Ia (Ir #[I (tN q),O .i64 (rH q)])/\Below w.heap.size w w':=by
 have HCQ:Hid (∀W,Calls AT 85 #[Iu #[I q.service,I q.tag,I q.node,I q.mM]] W λe w'=>e=Ia (O .i64 (pt q))/\Below W.heap.size W w'):=λW=>Du q W hq;by_cases h0:pt q=0
 .obtain⟨zf,z1,z2,z3,z4,_⟩:=tX h0
  have hsn:q.node.size=0->q.service.size≠0:=λhn hs=>by
   unfold zX at zf;simp[hn,hs] at zf
  have y1:=pV z1;have y2:=pV z2;have y3:=pV z3;have y4:=pV z4;clear z1 z2 z3 z4 zf;have GN:Hid (∀(t:ByteArray) W,t=prt q->t.size<=2000000->Calls AT 44 #[I t] W λe w'=>e=Ia (O .i64 (nS (prt q)))/\Below W.heap.size W w'):=λt W h hz=>by
   rw[<- h];exact rP t W hz
  have HE:Hid (rH q=nS (prt q)):=if_pos h0;have HS:Hid (tN q=if rH q=0 then prt q else⟨#[]⟩):=rfl;have HP:Hid (prt q=mk (jn (yE q))):=rfl;have Xr:Hid (yE q=if q.node.size=0 then opt q.tag++(opt q.service++([Aw]++(opt q.mM++[tT]))) else opt q.node++([Ax]++(opt q.mM++[tT]))):=rfl;rw[h0] at HCQ;generalize yE q=PL at *;generalize tN q=S at *;generalize hce:nS (prt q)=ce' at *;generalize prt q=T at *;generalize rH q=E at *;clear h0 hq hce;obtain⟨sv,tg,nd,ce⟩:=q;simp only at HCQ Xr y1 y2 y3 y4 hsn ⊢;by_cases hn:nd.size=0<;>by_cases ht:tg.size=0<;>by_cases hc:ce.size=0;all_goals
   have Ln:=Xr.out;simp only[hn,if_true,if_false] at Ln;clear Xr;first|(rw[oW (hsn hn)] at Ln)|(rw[oW hn] at Ln)
   first|(rw[rQ ht] at Ln)|(rw[oW ht] at Ln)|skip
   first|(rw[rQ hc] at Ln)|(rw[oW hc] at Ln)
   have HT:Hid (T=mk (jn PL)):=HP.out;rw[Ln] at HT;clear HP Ln hsn;first|(have en:=nB hn;subst en)|(obtain⟨n1,n2⟩:=oC hn)
   first|(have et:=nB ht;subst et)|(obtain⟨t1,t2⟩:=oC ht)
   first|(have ec:=nB hc;subst ec)|(obtain⟨c1,c2⟩:=oC hc)
   clear hn ht hc;go_enter func46,ntmps46;go_wp2_with fail;refine(HCQ.out _).mono ?_;rintro e w1 ⟨rfl,mO⟩;obtain⟨f0,f1,f2,f3,mY,o8⟩:=Ll mO;clear mO;go_wp2_with fail;refine(GN.out _ w1 ?_ ?_).mono ?_
   .rw[HT.out]
    simp[ac5,jn,bytes,mk]
   .simp only[Om,aud,aue,auf,aug]
    omega
   rintro e w2 ⟨rfl,mZ⟩;have XJ:Hid (Below w.heap.size w w2):=mY.out.trans (mZ.mono (Nat.le_of_lt o8));clear GN mZ f0 f1 f2 f3;by_cases hz:ce'=0
   .have Bv:Hid (S=T):=Lm HS.out (by rw[HE.out];exact hz)
    subst hz;go_wp2_with fail;go_ret2;refine⟨BI ?_ HE.out.symm,XJ.out⟩;rw[Bv.out,HT.out];simp[ac5,jn,bytes,mk]
   .have Bv:Hid (S=⟨#[]⟩):=(show S=⟨#[]⟩ by rw[HS.out,if_neg (by rw[HE.out];exact hz)])
    have xC:(ce'==0)=false:=by simpa using hz
    go_wp2_with fail;go_ret2;exact⟨BI Bv.out.symm HE.out.symm,XJ.out⟩
 .have HE:Hid (rH q=pt q):=if_neg h0
  have HS:Hid (tN q=⟨#[]⟩):=if_neg (by rw[HE.out];exact h0);rw[HE.out,HS.out];have h1:(pt q==0)=false:=by simpa using h0
  clear HE HS;generalize pt q=r at *;go_enter func46,ntmps46;go_wp2_with (go_at_call 85;refine(HCQ.out _).mono ?_;rintro e w1 ⟨rfl,mO⟩);go_ret2;have hz:=mO.size;simp at hz;exact⟨rfl,((If _ _).alloc (By _) _).trans (mO.mono (by simp))⟩
end Go.Proofs.YtipbebleapjcjaaGreatDoor
