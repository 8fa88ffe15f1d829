import Derived.Test.YtfidjlcdlakceaaGreatDoorrt12
import Derived.Test.YtfidjlcdlakceaaGreatDoorrt5
import Derived.Test.YtfidjlcdlakceaaGreatDoorrt8
import Derived.Laws.AppendOwnNone
import Derived.Deep.AppendLies
import Derived.Laws.EntriesVeiled
set_option maxHeartbeats 6400000
set_option maxRecDepth 100000
open Go.IntKind renaming i64→J
open ByteArray renaming empty→If
open Go.Maps renaming has→OK,size→No
open Go.Value renaming string→I,int→O,bool→AT,slice→U,agg→Ip,tuple→Il,ownBlock→I2
open Option renaming none→Y,some→Z
open Go renaming maxLen→Ii,run_underlying→QS,plainElem→Jk,heap_alloc_new→Ie,step_append_lies→Qz,bodyPost_ret→Iy
open List renaming getD→Io,getElem?_eq_getElem→Ic,getElem?_eq_none→IK,range→JS,all_eq_true→J2,mem_range→Qd,length_append→Ij,length_cons→I5,getElem?_take_of_lt→IL
open Go.Proofs.Tryz renaming prog→be,underlying9→Iv,underlying223→JG,underlying3→Iz,underlying297→QB
open Go.Ending renaming returned→sh
open Nat renaming zero_le→IF,le_refl→By,zero_add→I3
open Go.World renaming ownsMap_made→Uj,new_ne→Jo,block_lt_of_cell?→IE,frozen?→Ih
open Go.RowKit.Below renaming refl→Ia,heap_alloc→It
open Go.Obj renaming cells→AI
open Array renaming getElem?_eq_some_iff→Ib
open Go.Value.slice renaming injEq→IS
open Option.some renaming injEq→JA,inj→Oc
namespace Go.Proofs.YtfidjlcdlakceaaGreatDoor
open Go.RowKit Go.WideMaps Go.Maps
abbrev kS(s:ByteArray):Lit:=.string s.data.toList
theorem lC(s:ByteArray):WideAt.IsKeyLit (kS s):=by simp[WideAt.IsKeyLit]
theorem vq{a b:ByteArray}(h:a≠b):kS a≠kS b:=λe=>h (by
 have h2:a.data.toList=b.data.toList:=by injection e
 obtain⟨⟨a⟩⟩:=a;obtain⟨⟨b⟩⟩:=b;simp at h2;rw[h2])
def Dm(ns:List ByteArray):Nat->DataW Unit
 |0=>.map []
 |k+1=>(Dm ns k).put (kS (ns.getD k If)) (.lit (.int J k))
theorem nZ(ns:List ByteArray):∀k,Tidy (Dm ns k)
 |0=>tidy_empty
 |k+1=>(nZ ns k).put (lC _) _
theorem pC(ns:List ByteArray)(s:ByteArray):∀k,OK (Dm ns k) (kS s)=true↔∃j,j<k/\ns.getD j If=s
 |0=>by simp[Dm,OK]
 |k+1=>by
  by_cases h:ns.getD k If=s
  .subst h
   rw[Dm,has_put_same (nZ ns k).isMap (lC _)];exact⟨λ_=>⟨k,by omega,rfl⟩,λ_=>rfl⟩
  .rw[Dm,has_put_other (vq (Ne.symm h)),pC ns s k]
   constructor
   .rintro⟨j,hj,e⟩;exact⟨j,by omega,e⟩
   .rintro⟨j,hj,e⟩
    by_cases M5:j=k
    .subst M5;exact absurd e h
    .exact⟨j,by omega,e⟩
theorem rL(ns:List ByteArray)(k:Nat):No (Dm ns (k+1))=if OK (Dm ns k) (kS (ns.getD k If))=true then No (Dm ns k) else No (Dm ns k)+1:=by
 rw[Dm,size_put (nZ ns k)]
theorem np(ns:List ByteArray):∀k,No (Dm ns k)<=k
 |0=>by simp[Dm,No]
 |k+1=>by
  have:=np ns k;rw[rL];split<;>omega
theorem nq(ns:List ByteArray):∀k,(∀i j,i<j->j<k->ns.getD i If≠ns.getD j If)->No (Dm ns k)=k
 |0,_=>by simp[Dm,No]
 |k+1,h=>by
  have h1:=nq ns k (λi j hi hj=>h i j hi (by omega));have h2:¬ OK (Dm ns k) (kS (ns.getD k If))=true:=by
   rw[pC];rintro⟨j,hj,e⟩;exact h j k hj (by omega) e
  rw[rL,if_neg h2,h1]
theorem nt(ns:List ByteArray):∀k,(∃i j,i<j/\j<k/\ns.getD i If=ns.getD j If)->No (Dm ns k)<k
 |0,⟨i,j,_,hj,_⟩=>by omega
 |k+1,⟨i,j,kR,hj,e⟩=>by
  rw[rL];by_cases M5:j=k
  .subst M5
   rw[if_pos ((pC ns _ j).2 ⟨i,kR,e⟩)];have:=np ns j;omega
  .have:=nt ns k ⟨i,j,kR,by omega,e⟩
   split<;>omega
theorem K6(ns:List ByteArray)(s:ByteArray)(z:DataW Unit):∀k j,j<k->ns.getD j If=s->(∀i,j<i->i<k->ns.getD i If≠s)->(Dm ns k).atKey (kS s) z=.lit (.int J j)
 |0,j,hj,_,_=>by omega
 |k+1,j,hj,e,h=>by
  by_cases M5:j=k
  .subst M5
   subst e;rw[Dm,atKey_put_same (nZ ns j).isMap (lC _)]
  .rw[Dm,atKey_put_other (vq (λx=>h k (by omega) (by omega) x.symm))]
   exact K6 ns s z k j (by omega) e (λi hi hk=>h i hi (by omega))
structure bu where
 m:Mem
 told:Int
def dr:bu:=⟨dm,0⟩
def iX(w:World)(b off:Nat)(rs:List bu):Prop:=∀j,j<rs.length ->
 w.cell? ⟨b,off+j*6,Y⟩=Z (I (rs.getD j dr).m.name)/\w.cell? ⟨b,off+j*6+1,Y⟩=Z (O J (rs.getD j dr).m.state) /\
 w.cell? ⟨b,off+j*6+2,Y⟩=Z (O J (rs.getD j dr).m.aP)/\w.cell? ⟨b,off+j*6+3,Y⟩=Z (O J (rs.getD j dr).m.addr) /\
 w.cell? ⟨b,off+j*6+4,Y⟩=Z (AT (rs.getD j dr).m.server)/\w.cell? ⟨b,off+j*6+5,Y⟩=Z (O J (rs.getD j dr).told)
theorem iX.below{w w':World}{b off B:Nat}{rs:List bu}(h:iX w b off rs)(hb:Below B w w')(hB:b<B):iX w' b off rs:=λk hk=>by
 obtain⟨h0,h1,h2,h3,h4,h5⟩:=h k hk;exact⟨by rw[hb.cell hB];exact h0,by rw[hb.cell hB];exact h1,by rw[hb.cell hB];exact h2,by rw[hb.cell hB];exact h3,by rw[hb.cell hB];exact h4,by rw[hb.cell hB];exact h5⟩
def kB(w:World)(v:Value)(rs:List bu):Prop:=
 ∃(a:Option Addr) (cap:Nat),v=U a rs.length cap/\(∀j,(rs.getD j dr).m.name.size<=Ii) /\
  (rs=[]\/∃b off,a=Z ⟨b,off,Y⟩/\b<w.heap.size/\iX w b off rs)
theorem kB.below{w w':World}{v:Value}{rs:List bu}(h:kB w v rs)(hb:Below w.heap.size w w'):kB w' v rs:=by
 obtain⟨a,c,hv,hn,h⟩:=h;refine⟨a,c,hv,hn,?_⟩;rcases h with h|⟨b,off,ha,aB,hr⟩
 .exact .inl h
 .exact .inr ⟨b,off,ha,Nat.lt_of_lt_of_le aB hb.size,hr.below hb aB⟩
def eE(rs:List bu):List ByteArray:=rs.map (·.m.name)
theorem cU(rs:List bu)(k:Nat):(eE rs).getD k If=(rs.getD k dr).m.name:=by
 by_cases h:k<rs.length
 .simp[eE,Io,Ic h]
 .simp[eE,Io,IK (by omega:rs.length<=k),dr,dm]
theorem Pj:Keyed be 9:=string_keyed Iv
theorem K7(w:World):(zeroValue 3).run be w=.ok (O J 0) w:=by kernel_rfl
theorem kC(n:Int)(w:World):(Instr.makeMap 223 (Z (O J n))).run be w=.ok (.map (Z w.heap.size)) (w.alloc (.map #[] 0)):=by
 have h:=QS JG;simp[Instr.makeMap,h,asInt,newObj];rfl
theorem n9(rs:List bu)(v:Value)(w:World)(hv:kB w v rs)(hn:rs.length<=1000) :
 Calls be 179 #[v] w λe w'=>e=sh (.map (Z w.heap.size))/\w'.ownsMap be 9 (Jk (H:=Unit) be 3) w.heap.size rs.length (Dm (eE rs) rs.length)/\Below w.heap.size w w':=by
 obtain⟨pa,ca,rfl,bb,ha⟩:=hv;have HA:Hid _:=ha;have HS:Hid _:=bb;clear ha bb;generalize hN:rs.length=n at *;have HN:Hid _:=hN;clear hN;have oS:=kC;go_enter Tryz.func179,Tryz.ntmps179;go_wp2;go_loopw [11] (λi wr=>∃k:Nat,k<=n/\i=O J k/\Hid (wr.ownsMap be 9 (Jk (H:=Unit) be 3) w.heap.size k (Dm (eE rs) k))/\Hid (Below w.heap.size w wr))
  (λi _=>n-(intOf i).toNat)
 case atStart=>exact⟨0,IF _,rfl,Uj _ _ _ _,(Ia _ _).alloc (By _) _⟩
 case round=>
  obtain⟨k,hk,rfl,HO,HB⟩:=hrel;by_cases aB:k<n
  .obtain⟨b,off,hp,hl,hr⟩:∃b off,pa=Z ⟨b,off,Y⟩/\b<w.heap.size/\iX w b off rs:=by
    rcases HA.out with h|h
    .have:=HN.out;rw[h] at this;simp at this;omega
    .exact h
   subst hp;obtain⟨c0,c1,c2,c3,c4,c5⟩:=hr.below HB.out hl k (by rw[HN.out];exact aB);have Bc:=keyOf_string_mk Iv (HS.out k);have o6:Hid (∀w1:World,w1.ownsMap be 9 (Jk (H:=Unit) be 3) w.heap.size (k+1) ((Dm (eE rs) k).put (kS (rs.getD k dr).m.name) (.lit (.int J k)))->w1.ownsMap be 9 (Jk (H:=Unit) be 3) w.heap.size (k+1) (Dm (eE rs) (k+1))):=λw1 h=>by
    rw[Dm,cU];exact h
   generalize(rs.getD k dr)=rk at *;obtain⟨⟨nm,st,lf,ad,sv⟩,td⟩:=rk;simp only at c0 c1 c2 c3 c4 c5 Bc o6;clear hr;go_wp2_with (first
    |(at_mapUpdate;refine wpList_mapUpdate_own _ rfl _ _ _ 223 rfl 9 3 Pj JG _ w.heap.size k _ rfl (HO.out.alloc _) (by unfold Ii;omega) _ _ _ rfl rfl Bc _ [] (plainElem_int Iz (WalkArith.wf_i64 (by omega))) ?_)
    |fail)
   intro w1 ib K8;have R1:Hid (w1.ownsMap _ _ _ _ _ _):=o6.out w1 ib;have R2:Hid _:=(HB.out.alloc HB.out.size _).grown K8 (by have:=HB.out.size;simp;omega) (λj hj=>by cases hj;exact By _);clear ib K8 HO HB c0 c1 c2 c3 c4 c5 o6;go_wp2_with fail;go_roundw
   case rel=>exact⟨k+1,by omega,by go_num,R1,R2⟩
   case measure=>simp[intOf];omega
  .have gj:k=n:=by omega
   subst gj;go_wp2_with fail;go_ret;exact⟨rfl,HO.out,HB.out⟩
theorem iI(m:Mem):aM [m]=m.e:=by
 unfold aM;by_cases h:m.e=0
 .simp[aQ,h,aC]
 .simp[aQ,h]
theorem cC{W:World}{cs:Array Value}{t:TypeId}{g k:Nat}(hg:g=W.heap.size):(W.alloc (AI cs t)).cell? ⟨g,k,Y⟩=cs[k]?:=by subst hg;simp
theorem ey(m:Mem)(w:World)(hs:m.name.size<=Ii) :
 Calls be 178 #[Ip #[I m.name,O J m.state,O J m.aP,O J m.addr,AT m.server]] w λe w'=>e=sh (O J m.e)/\Below w.heap.size w w':=by
 go_enter Tryz.func178,Tryz.ntmps178;go_wp2_with fail;refine(aR [m] _ _ ⟨_,_,rfl,bN (by simpa using hs),.inr ⟨w.heap.size+1,0,rfl,by simp,?_⟩⟩).mono ?_
 .intro j hj
  have:j=0:=by simpa using hj
  subst this;exact⟨cC (by simp),cC (by simp),cC (by simp),cC (by simp),cC (by simp)⟩
 rintro e w1 ⟨rfl,an⟩;have HB:Hid _:=(((Ia _ _).alloc (By _) _).alloc (by simp) _).trans (an.mono (by simp;omega));clear an;rw[iI];go_wp2_with fail;go_ret;exact⟨rfl,HB.out⟩
def dS(rs:List bu):Prop:=∀i j,i<j->j<rs.length->(rs.getD i dr).m.name≠(rs.getD j dr).m.name
def mO(rs:List bu):List Mem:=rs.map (·.m)
theorem jL(rs:List bu)(k:Nat):(mO rs).getD k dm=(rs.getD k dr).m:=by
 by_cases h:k<rs.length
 .simp[mO,Io,Ic h]
 .simp[mO,Io,IK (by omega:rs.length<=k),dr]
theorem pD(rs:List bu):(mO rs).length=rs.length:=by simp[mO]
def fo(rs:List bu):Prop:=∀j,j<rs.length->within (rs.getD j dr).told 0 100=true
theorem yp(rs:List bu):((JS rs.length).all λj=>within (rs.getD j dr).told 0 100)=true↔fo rs:=by
 unfold fo;simp only[J2,Qd]
theorem wJ(rs:List bu):((JS rs.length).all λj=>(JS j).all λi=>decide ((rs.getD i dr).m.name≠(rs.getD j dr).m.name))=true↔dS rs:=by
 unfold dS;simp only[J2,Qd,decide_eq_true_eq];exact⟨λh i j hi hj=>h j hj i hi,λh j hj i hi=>h i j hi hj⟩
def cI(rs:List bu):Int:=
 if 20<rs.length then 2 else if aQ (mO rs)=0 then(@ite _ (fo rs) (decidable_of_iff _ (yp rs)) (@ite _ (dS rs) (decidable_of_iff _ (wJ rs)) 0 6) 3) else aQ (mO rs)
theorem vt{rs:List bu}(h:20<rs.length):cI rs=2:=by unfold cI;rw[if_pos h]
theorem yq{rs:List bu}{k:Nat}(hn:rs.length<=20)(hk:k<rs.length)(hz:∀j,j<k->(rs.getD j dr).m.e=0)(bE:(rs.getD k dr).m.e≠0):cI rs=(rs.getD k dr).m.e:=by
 have h:=dv (mO rs) k (by rw[pD];exact hk) (λj hj=>by rw[jL];exact hz j hj) (by rw[jL];exact bE);rw[jL] at h;unfold cI;rw[if_neg (by omega),if_neg (by rw[h];exact bE),h]
theorem lD{rs:List bu}(hz:∀j,j<rs.length->(rs.getD j dr).m.e=0):aQ (mO rs)=0:=
 bM _ (λj hj=>by rw[jL];exact hz j (by rw[pD] at hj;exact hj))
theorem vu{rs:List bu}{k:Nat}(hn:rs.length<=20)(hz:∀j,j<rs.length->(rs.getD j dr).m.e=0)(hk:k<rs.length)(bE:within (rs.getD k dr).told 0 100=false):cI rs=3:=by
 unfold cI;rw[if_neg (by omega),if_pos (lD hz),if_neg];intro h;rw[h k hk] at bE;cases bE
theorem sJ{rs:List bu}(hn:rs.length<=20)(hz:∀j,j<rs.length->(rs.getD j dr).m.e=0)(ht:fo rs)(hd:¬ dS rs):cI rs=6:=by
 unfold cI;rw[if_neg (by omega),if_pos (lD hz),if_pos ht,if_neg hd]
theorem wK{rs:List bu}(hn:rs.length<=20)(hz:∀j,j<rs.length->(rs.getD j dr).m.e=0)(ht:fo rs)(hd:dS rs):cI rs=0:=by
 unfold cI;rw[if_neg (by omega),if_pos (lD hz),if_pos ht,if_pos hd]
theorem aal{rs:List bu}(hd:¬ dS rs):No (Dm (eE rs) rs.length)<rs.length:=by
 apply nt;apply Classical.byContradiction;intro h;apply hd;intro i j kR hj e;exact h ⟨i,j,kR,hj,by rw[cU,cU];exact e⟩
theorem aam{rs:List bu}(hd:dS rs):No (Dm (eE rs) rs.length)=rs.length:=
 nq _ _ (λi j kR hj=>by rw[cU,cU];exact hd i j kR hj)
theorem fu(rs:List bu)(v:Value)(w:World)(hv:kB w v rs) :
 Calls be 128 #[v] w λe w'=>e=sh (O J (cI rs))/\Below w.heap.size w w':=by
 have HV:Hid (kB w v rs):=hv;obtain⟨pa,ca,rfl,bb,ha⟩:=hv;by_cases hmany:20<rs.length
 .have HE:Hid _:=vt hmany
  go_enter Tryz.func128,Tryz.ntmps128;go_wp2_with fail;go_ret;exact⟨aj HE.out.symm,Ia _ _⟩
 have HA:Hid _:=ha;have HS:Hid _:=bb;clear ha bb;generalize hN:rs.length=n at *;have HN:Hid _:=hN;clear hN;have nW:n<=20:=by omega
 go_enter Tryz.func128,Tryz.ntmps128;go_wp2;go_loopw [13] (λi wr=>∃k:Nat,k<=n/\i=O J k/\Hid (∀j,j<k->(rs.getD j dr).m.e=0)/\Hid (Below w.heap.size w wr))
  (λi _=>n-(intOf i).toNat)
 case atStart=>exact⟨0,IF _,rfl,λj hj=>by omega,Ia _ _⟩
 case round=>
  obtain⟨k,hk,rfl,HZ,HB⟩:=hrel;by_cases aB:k<n
  .obtain⟨b,off,hp,hl,hr⟩:∃b off,pa=Z ⟨b,off,Y⟩/\b<w.heap.size/\iX w b off rs:=by
    rcases HA.out with h|h
    .have:=HN.out;rw[h] at this;simp at this;omega
    .exact h
   subst hp;obtain⟨c0,c1,c2,c3,c4,c5⟩:=hr.below HB.out hl k (by rw[HN.out];exact aB);have eX:=HS.out k;have HX:Hid ((rs.getD k dr).m.e≠0->cI rs=(rs.getD k dr).m.e):=λh=>yq (by rw[HN.out];exact nW) (by rw[HN.out];exact aB) HZ.out h;have fm:Hid ((rs.getD k dr).m.e=0->∀j,j<k+1->(rs.getD j dr).m.e=0):=λh j hj=>by
    by_cases e:j=k
    .subst e;exact h
    .exact HZ.out j (by omega)
   generalize(rs.getD k dr)=rk at *;obtain⟨⟨nm,st,lf,ad,sv⟩,td⟩:=rk;simp only at c0 c1 c2 c3 c4 c5 eX HX fm;clear hr HZ;go_wp2_with fail;refine(ey ⟨nm,st,lf,ad,sv⟩ _ eX).mono ?_;rintro e w1 ⟨rfl,an⟩;have aK:Hid _:=(HB.out.alloc HB.out.size _).trans (an.mono (by have:=HB.out.size;simp;omega));clear an c0 c1 c2 c3 c4 c5 HB;by_cases he:(Mem.mk nm st lf ad sv).e=0
   .have gJ:((Mem.mk nm st lf ad sv).e !=0)=false:=by simpa using he
    have jM:Hid _:=fm.out he;clear HX fm he;go_wp2_with fail;go_roundw
    case rel=>exact⟨k+1,by omega,by go_num,jM,aK⟩
    case measure=>simp[intOf];omega
   .have gJ:((Mem.mk nm st lf ad sv).e !=0)=true:=by simpa using he
    have HE:Hid _:=HX.out he;clear HX fm he;go_wp2_with fail;go_ret;exact⟨aj HE.out.symm,aK.out⟩
  .have Vu:Hid (∀j,j<rs.length->(rs.getD j dr).m.e=0):=λj hj=>HZ.out j (by rw[HN.out] at hj;omega)
   clear HZ;go_wp2_with fail;go_loopw [26] (λi wr=>∃k:Nat,k<=n/\i=O J k/\Hid (∀j,j<k->within (rs.getD j dr).told 0 100=true)/\Hid (Below w.heap.size w wr))
    (λi _=>n-(intOf i).toNat)
   case atStart=>exact⟨0,IF _,rfl,λj hj=>by omega,HB⟩
   case round=>
    clear HB aB hk;obtain⟨k2,hk,rfl,HZ,HB⟩:=hrel;by_cases aB:k2<n
    .obtain⟨b,off,hp,hl,hr⟩:∃b off,pa=Z ⟨b,off,Y⟩/\b<w.heap.size/\iX w b off rs:=by
      rcases HA.out with h|h
      .have:=HN.out;rw[h] at this;simp at this;omega
      .exact h
     subst hp;obtain⟨c0,c1,c2,c3,c4,c5⟩:=hr.below HB.out hl k2 (by rw[HN.out];exact aB);have HX:Hid (within (rs.getD k2 dr).told 0 100=false->cI rs=3):=λh=>vu (by rw[HN.out];exact nW) Vu.out (by rw[HN.out];exact aB) h;have fm:Hid (within (rs.getD k2 dr).told 0 100=true->∀j,j<k2+1->within (rs.getD j dr).told 0 100=true):=λh j hj=>by
      by_cases e:j=k2
      .subst e;exact h
      .exact HZ.out j (by omega)
     generalize(rs.getD k2 dr)=rk at *;obtain⟨⟨nm,st,lf,ad,sv⟩,td⟩:=rk;simp only at c0 c1 c2 c3 c4 c5 HX fm;clear hr HZ;rcases ht:within td 0 100 with _|_
     .have HE:Hid _:=HX.out ht
      clear HX fm;go_wp2_with (go_at_call 70;refine(bw _ _ _ _).mono ?_;rintro e w' ⟨rfl,rfl⟩;rw[ht]);go_ret;exact⟨aj HE.out.symm,HB.out.alloc HB.out.size _⟩
     .have jM:Hid _:=fm.out ht
      clear HX fm;go_wp2_with (go_at_call 70;refine(bw _ _ _ _).mono ?_;rintro e w' ⟨rfl,rfl⟩;rw[ht]);go_roundw
      case rel=>exact⟨k2+1,by omega,by go_num,jM,HB.out.alloc HB.out.size _⟩
      case measure=>simp[intOf];omega
    .have HTA:Hid (fo rs):=λj hj=>HZ.out j (by rw[HN.out] at hj;omega)
     clear HZ;go_wp2_with fail;refine(n9 rs _ _ (HV.out.below HB.out) (by rw[HN.out];omega)).mono ?_;rintro e w1 ⟨rfl,hown,an⟩;have HO:Hid (w1.ownsMap _ _ _ _ _ _):=hown;have aK:Hid _:=HB.out.trans (an.mono HB.out.size);clear hown an;have Er:(No (Dm (eE rs) rs.length):Nat)<=n:=by rw[<- HN.out];exact np _ _
     by_cases hd:dS rs
     .have HE:Hid _:=wK (by rw[HN.out];exact nW) Vu.out HTA.out hd
      have HSZ:¬ ((No (Dm (eE rs) rs.length):Nat):Int)<n:=by rw[aam hd,HN.out];omega
      go_wp2_with (at_len;refine wpList_len_own _ rfl _ 223 rfl 9 3 JG _ _ _ _ rfl HO.out ?_);go_ret;exact⟨aj HE.out.symm,aK.out⟩
     .have HE:Hid _:=sJ (by rw[HN.out];exact nW) Vu.out HTA.out hd
      have HSZ:((No (Dm (eE rs) rs.length):Nat):Int)<n:=by have:=aal hd;have:=HN.out;omega
      go_wp2_with (at_len;refine wpList_len_own _ rfl _ 223 rfl 9 3 JG _ _ _ _ rfl HO.out ?_);go_ret;exact⟨aj HE.out.symm,aK.out⟩
end Go.Proofs.YtfidjlcdlakceaaGreatDoor
namespace Go.Proofs.YtfidjlcdlakceaaGreatDoor
open Go.RowKit
def cM(ms:List Mem)(t:ByteArray):Option Mem:=ms.find? λm=>decide (m.name=t)
def dZ(ms:List Mem)(t:ByteArray):Mem:=(cM ms t).getD dm
def yr(ms:List Mem)(t:ByteArray):Bool:=decide ((dZ ms t).state=3)||decide ((dZ ms t).state=4)
theorem mh{ms:List Mem}{t:ByteArray}(h:∀j,j<ms.length->(ms.getD j dm).name≠t):cM ms t=Y:=by
 unfold cM;rw[List.find?_eq_none];intro x hx;obtain⟨j,hj,rfl⟩:=List.getElem_of_mem hx;have:=h j hj;rw[show ms.getD j dm=ms[j] by simp[Io,Ic hj]] at this;simpa using this
theorem mi{ms:List Mem}{t:ByteArray}{k:Nat}(hk:k<ms.length)(h1:∀j,j<k->(ms.getD j dm).name≠t)(h2:(ms.getD k dm).name=t):cM ms t=Z (ms.getD k dm):=by
 unfold cM;rw[show ms.getD k dm=ms[k] by simp[Io,Ic hk]] at h2 ⊢;rw[List.find?_eq_some_iff_getElem];refine⟨by simpa using h2,k,hk,rfl,λj hj=>?_⟩;have:=h1 j hj;rw[show ms.getD j dm=ms[j]'(by omega) by simp[Io,Ic (show j<ms.length by omega)]] at this;simpa using this
theorem od{ms:List Mem}{t:ByteArray}{m:Mem}(h:cM ms t=Z m):m∈ms/\m.name=t:=by
 unfold cM at h;exact⟨List.mem_of_find?_eq_some h,by simpa using List.find?_some h⟩
def mP(ms:List Mem):Prop:=∀i j,i<j->j<ms.length->(ms.getD i dm).name≠(ms.getD j dm).name
def apB(ms:List Mem):Bool:=(JS ms.length).all λj=>(JS j).all λi=>decide ((ms.getD i dm).name≠(ms.getD j dm).name)
theorem wL(ms:List Mem):apB ms=true↔mP ms:=by
 simp only[apB,J2,Qd,decide_eq_true_eq];exact⟨λh i j kR hj=>h j hj i kR,λh j hj i kR=>h i j kR hj⟩
def kJ(ms:List Mem):Int:=if 5<ms.length then 2 else if aQ ms=0 then(if apB ms=true then 0 else 6) else aQ ms
theorem EK{ms:List Mem}(h:5<ms.length):kJ ms=2:=if_pos h
theorem Vv{ms:List Mem}{k:Nat}(hn:ms.length<=5)(hk:k<ms.length)(hz:∀j,j<k->(ms.getD j dm).e=0)(bE:(ms.getD k dm).e≠0):kJ ms=(ms.getD k dm).e:=by
 have h:=dv ms k hk hz bE;rw[kJ,if_neg (by omega),h,if_neg bE]
theorem Bd{ms:List Mem}(hn:ms.length<=5)(hz:∀j,j<ms.length->(ms.getD j dm).e=0)(hd:¬ mP ms):kJ ms=6:=by
 rw[kJ,if_neg (by omega),if_pos (bM ms hz),if_neg (λh=>hd ((wL ms).1 h))]
theorem Pm{ms:List Mem}(hn:ms.length<=5)(hz:∀j,j<ms.length->(ms.getD j dm).e=0)(hd:mP ms):kJ ms=0:=by
 rw[kJ,if_neg (by omega),if_pos (bM ms hz),if_pos ((wL ms).2 hd)]
theorem EL{ms:List Mem}(h:kJ ms=0):ms.length<=5/\aQ ms=0/\mP ms:=by
 unfold kJ at h;split at h
 .cases h
 .split at h
  .rename_i h1 h2
   split at h
   .rename_i h3;exact⟨by omega,h2,(wL ms).1 h3⟩
   .cases h
  .rename_i h1 h2;exact absurd h h2
structure Pk where
 fw:ByteArray
 whole:Bool
 ms:List Mem
 sv:List Sv.ba
 gw:List Gw.cW
 wh:List Wh.cd
def Pk.alone(p:Pk):Bool:=p.sv.isEmpty&&(p.gw.isEmpty&&p.wh.isEmpty)
def Pk.mE(p:Pk):Int:=if p.whole=true then aM p.ms else kJ p.ms
def Pk.e(p:Pk):Int:=
 if(aA p.fw&&(p.whole||p.alone))=true then
  (if p.mE=0 then(if Sv.aM p.sv=0 then(if Gw.aM p.gw=0 then Wh.aM p.wh else Gw.aM p.gw) else Sv.aM p.sv) else p.mE)
 else 1
structure Nd where
 name:ByteArray
 ai:ByteArray
 ms:List Mem
 rs:List bu
 sv:List Sv.ba
 gw:List Gw.cW
 p:Pl
 wh:List Wh.cd
def fN(ms:List Mem)(r:bu):Bool:=match cM ms r.m.name with
 |none=>true
 |some k=>ik r.m k
def Nd.wE(n:Nd):Int:=match cM n.ms n.name with
 |none=>5
 |some m=>if m.state=2\/m.state=3 then 4 else if n.rs.any (fN n.ms)=true then 4 else 0
def Nd.pE(n:Nd):Int:=
 if(aA n.name&&aA n.ai)=true then
  (if aM n.ms=0 then(if cI n.rs=0 then(if Sv.aM n.sv=0 then(if Gw.aM n.gw=0 then(if bF n.p=0 then Wh.aM n.wh else bF n.p) else Gw.aM n.gw) else Sv.aM n.sv) else cI n.rs) else aM n.ms)
 else 1
def Nd.e(n:Nd):Int:=if n.pE=0 then n.wE else n.pE
structure Nd.Sq(n:Nd):Prop where
 name:aA n.name=true
 ai:aA n.ai=true
 ms:aM n.ms=0
 rs:cI n.rs=0
 sv:Sv.aM n.sv=0
 gw:Gw.aM n.gw=0
 p:bF n.p=0
 wh:Wh.aM n.wh=0
theorem Nd.parts{n:Nd}(h:n.pE=0):n.Sq:=by
 unfold Nd.pE at h;split at h
 .rename_i h0
  rw[Bool.and_eq_true] at h0;split at h
  .rename_i h1
   split at h
   .rename_i h2
    split at h
    .rename_i h3
     split at h
     .rename_i h4
      split at h
      .rename_i h5;exact⟨h0.1,h0.2,h1,h2,h3,h4,h5,h⟩
      .rename_i h5;exact absurd h h5
     .rename_i h4;exact absurd h h4
    .rename_i h3;exact absurd h h3
   .rename_i h2;exact absurd h h2
  .rename_i h1;exact absurd h h1
 .cases h
theorem Nd.jy{n:Nd}(h:n.e=0):n.pE=0/\n.wE=0:=by
 unfold Nd.e at h;split at h
 .rename_i h1;exact⟨h1,h⟩
 .rename_i h1;exact absurd h h1
def sK(n a b:Int):Bool:=decide (a<=n)&&decide (n<=b)
theorem afw{a b:Bool}(h:a=b):Ending.returned (AT a)=sh (AT b):=by rw[h]
theorem eT(n a b:Int)(w:World) :
 Calls be 82 #[O J n,O J a,O J b] w λe w'=>e=sh (AT (sK n a b))/\w'=w:=by
 go_enter Tryz.func82,Tryz.ntmps82;go_wp2;all_goals
  go_ret;exact⟨afw (by unfold sK;rw[Bool.eq_iff_iff];simp;try omega),rfl⟩
theorem eB{n a b:Int}(h:sK n a b=true):a<=n/\n<=b:=by simpa[sK] using h
theorem iJ{n a b:Int}(h:sK n a b=false):¬ (a<=n/\n<=b):=by
 intro g;simp[sK,g.1,g.2] at h
theorem Be{p:Pl}(h:¬ uy p):bF p=3:=(CI p).resolve_left (λe=>h ((rM p).1 e))
theorem lE(p:Pl)(w:World) :
 Calls be 38 #[Ip #[O J p.x,O J p.y,O J p.z,O J p.h,O J p.s]] w λe w'=>e=sh (O J (bF p))/\w'=w.alloc (AI #[O J p.x,O J p.y,O J p.z,O J p.h,O J p.s] 27):=by
 have HK:=rM p;have H3:Hid (¬ uy p->bF p=3):=Be;have HX:Hid (bF p=0↔uy p):=HK;clear HK;rcases h1:sK p.x (-10000000) 10000000 with _|_
 .have HE:Hid (bF p=3):=H3.out (λo=>iJ h1 ⟨o.x0,o.x1⟩)
  clear HX H3;go_enter Tryz.func38,Tryz.ntmps38;go_wp2_with (go_at_call 82;refine(eT _ _ _ _).mono ?_;rintro e w' ⟨rfl,rfl⟩;rw[h1]);go_ret;exact⟨pF HE.out.symm,rfl⟩
 rcases h2:sK p.y (-10000000) 10000000 with _|_
 .have HE:Hid (bF p=3):=H3.out (λo=>iJ h2 ⟨o.y0,o.y1⟩)
  clear HX H3;go_enter Tryz.func38,Tryz.ntmps38;go_wp2_with (go_at_call 82;refine(eT _ _ _ _).mono ?_;rintro e w' ⟨rfl,rfl⟩;first|rw[h1]|rw[h2]);go_ret;exact⟨pF HE.out.symm,rfl⟩
 rcases h3:sK p.z (-10000000) 10000000 with _|_
 .have HE:Hid (bF p=3):=H3.out (λo=>iJ h3 ⟨o.z0,o.z1⟩)
  clear HX H3;go_enter Tryz.func38,Tryz.ntmps38;go_wp2_with (go_at_call 82;refine(eT _ _ _ _).mono ?_;rintro e w' ⟨rfl,rfl⟩;first|rw[h1]|rw[h2]|rw[h3]);go_ret;exact⟨pF HE.out.symm,rfl⟩
 rcases h4:sK p.h 0 1000000 with _|_
 .have HE:Hid (bF p=3):=H3.out (λo=>iJ h4 ⟨o.h0,o.h1⟩)
  clear HX H3;go_enter Tryz.func38,Tryz.ntmps38;go_wp2_with (go_at_call 82;refine(eT _ _ _ _).mono ?_;rintro e w' ⟨rfl,rfl⟩;first|rw[h1]|rw[h2]|rw[h3]|rw[h4]);go_ret;exact⟨pF HE.out.symm,rfl⟩
 rcases h5:sK p.s 0 1000 with _|_
 .have HE:Hid (bF p=3):=H3.out (λo=>iJ h5 ⟨o.s0,o.s1⟩)
  clear HX H3;go_enter Tryz.func38,Tryz.ntmps38;go_wp2_with (go_at_call 82;refine(eT _ _ _ _).mono ?_;rintro e w' ⟨rfl,rfl⟩;first|rw[h1]|rw[h2]|rw[h3]|rw[h4]|rw[h5]);go_ret;exact⟨pF HE.out.symm,rfl⟩
 .have HE:Hid (bF p=0):=HX.out.2 ⟨(eB h1).1,(eB h1).2,(eB h2).1,(eB h2).2,(eB h3).1,(eB h3).2,(eB h4).1,(eB h4).2,(eB h5).1,(eB h5).2⟩
  clear HX H3;go_enter Tryz.func38,Tryz.ntmps38;go_wp2_with (go_at_call 82;refine(eT _ _ _ _).mono ?_;rintro e w' ⟨rfl,rfl⟩;first|rw[h1]|rw[h2]|rw[h3]|rw[h4]|rw[h5]);go_ret;exact⟨pF HE.out.symm,rfl⟩
end Go.Proofs.YtfidjlcdlakceaaGreatDoor
namespace Go.Proofs.YtfidjlcdlakceaaGreatDoor
namespace Pc
open Go.RowKit
structure mQ where
 x:Int
 y:Int
 z:Int
 h:Int
 s:Int
def dm:mQ:=⟨0,0,0,0,0⟩
abbrev As(w:World)(b o:Nat)(m:mQ):Prop:=w.cell? ⟨b,o,Y⟩=Z (O J m.x)/\w.cell? ⟨b,o+1,Y⟩=Z (O J m.y)/\w.cell? ⟨b,o+2,Y⟩=Z (O J m.z)/\w.cell? ⟨b,o+3,Y⟩=Z (O J m.h)/\w.cell? ⟨b,o+4,Y⟩=Z (O J m.s)
def Row(w:World)(b off:Nat)(ms:List mQ):Prop:=∀j,j<ms.length->As w b (off+j*5) (ms.getD j dm)
def mQ.cs(m:mQ):List Value:=[O J m.x,O J m.y,O J m.z,O J m.h,O J m.s]
def fl(ms:List mQ):List Value:=ms.flatMap mQ.cs
theorem bL(m:mQ):m.cs.length=5:=rfl
theorem bJ(m:mQ)(r:List mQ):fl (m::r)=m.cs++fl r:=by simp[fl]
theorem eA(a b:List mQ):fl (a++b)=fl a++fl b:=by simp[fl]
theorem cS:∀ms:List mQ,(fl ms).length=ms.length*5
 |[]=>rfl
 |m::r=>by rw[bJ,Ij,cS r,bL,I5];omega
theorem da(m:mQ):∀v∈m.cs,v.oneCell'=true:=by
 intro v hv;simp[mQ.cs] at hv;rcases hv with rfl|rfl|rfl|rfl|rfl<;>rfl
theorem fL(ms:List mQ):∀v∈fl ms,v.oneCell'=true:=by
 intro v hv;obtain⟨m,_,h⟩:=List.mem_flatMap.1 hv;exact da m v h
theorem eD(ms:List mQ)(j:Nat)(hj:j<ms.length)(t:Nat)(ht:t<5):(fl ms)[j*5+t]?=(ms.getD j dm).cs[t]?:=by
 induction ms generalizing j with
 |nil=>simp at hj
 |cons m r ih=>
  rw[bJ];cases j with
  |zero=>rw[List.getElem?_append_left (by rw[bL];omega)];simp
  |succ j=>
   rw[List.getElem?_append_right (by rw[bL];omega),bL,show(j+1)*5+t-5=j*5+t by omega,ih j (by simpa using hj)];simp
abbrev Own(base:Nat)(w:World)(v:Value)(ms:List mQ):Prop:=w.ownsRow base 27 5 v ms.length (fl ms)
theorem Own.below{base:Nat}{w w':World}{v:Value}{ms:List mQ}(h:Own base w v ms)(hb:Below w.heap.size w w'):Own base w' v ms:=by
 rcases h.2 with⟨rfl,h0⟩|⟨g,c,cur,rfl,dN,hg,fa,dO,cJ,aV⟩
 .exact⟨h.1,.inl ⟨rfl,h0⟩⟩
 .have aB:=(Ib.1 hg).1
  exact⟨h.1,.inr ⟨g,c,cur,rfl,dN,(hb.block g aB).trans hg,fa,dO,cJ,aV⟩⟩
theorem Own.lt{base:Nat}{w:World}{v:Value}{ms:List mQ}(h:Own base w v ms)(k:Nat)(hk:v.ownBlock=Z k):base<=k/\k<w.heap.size:=World.ownsRow.lt h k hk
theorem lU{base g c:Nat}{w:World}{ms:List mQ}(h:Own base w (U (Z ⟨g,0,Y⟩) ms.length c) ms)(j:Nat)(hj:j<ms.length) :
 As w g (j*5) (ms.getD j dm):=by
 rcases h.2 with⟨h1,_⟩|⟨g',c',cur,h1,dN,hg,fa,dO,cJ,aV⟩
 .cases h1
 .simp only[IS,JA,Addr.mk.injEq] at h1
  obtain⟨⟨rfl,_,_⟩,_,_⟩:=h1;have hc:∀t,t<5->w.cell? ⟨g,j*5+t,Y⟩=(ms.getD j dm).cs[t]?:=λt ht=>by
   rw[af hg,<- eD ms j hj t ht,<- aV,IL (by omega)];simp
  exact⟨hc 0 (by omega),hc 1 (by omega),hc 2 (by omega),hc 3 (by omega),hc 4 (by omega)⟩
theorem jG{base:Nat}{w:World}{v:Value}{ms:List mQ}(h:Own base w v ms)(p:Nat)(hp:p<ms.length):∃g c,v=U (Z ⟨g,0,Y⟩) ms.length c:=by
 rcases h.2 with⟨_,h0⟩|⟨g,c,cur,h1,_⟩
 .omega
 .exact⟨g,c,h1⟩
theorem bz(base:Nat)(w:World):Own base w (U Y 0 0) []:=World.ownsRow_nil w base 27 5
theorem ew{base:Nat}{w:World}{v:Value}{L:List mQ}{m:mQ}(h:w.ownsRow base 27 5 v (L.length+1) (fl L++m.cs)):Own base w v (L++[m]):=by
 have e:fl (L++[m])=fl L++m.cs:=by rw[eA,bJ];simp[fl]
 show w.ownsRow base 27 5 v (L++[m]).length (fl (L++[m]));rw[e,Ij];exact h
end Pc
end Go.Proofs.YtfidjlcdlakceaaGreatDoor
namespace Go.Proofs.YtfidjlcdlakceaaGreatDoor
open Go.RowKit
theorem Tryz.Bf:(Tryz.prog.info? 27).map (λi=>(i.zero,i.size,i.bytes))=Z (Z (Ip #[O J 0,O J 0,O J 0,O J 0,O J 0]),5,40):=by kernel_rfl
def mH(m:Wh.cd):Pc.mQ:=⟨m.x,m.y,m.z,m.h,m.s⟩
def dD(ms:List Wh.cd):List Pc.mQ:=ms.map mH
theorem EM{ms:List Wh.cd}{k:Nat}(hk:k<ms.length):dD (ms.take (k+1))=dD (ms.take k)++[mH (ms.getD k Wh.dm)]:=by
 rw[dD,dD,List.take_succ_eq_append_getElem hk,List.map_append];simp[Io,Ic hk]
theorem sL(ms:List Wh.cd):(dD ms).length=ms.length:=by simp[dD]
theorem sM(ms:List Wh.cd)(v:Value)(w:World)(hv:Wh.Sl w v ms)(hn:ms.length<=100) :
 Calls be 264 #[v] w λe w'=>∃v',e=sh v'/\Pc.Own w.heap.size w' v' (dD ms)/\Below w.heap.size w w':=by
 obtain⟨i0,eP,cE,gn,ga⟩:=info_parts Tryz.Bf;obtain⟨pa,ca,rfl,_,ha⟩:=hv;have HA:Hid (ms=[]\/∃b off,pa=Z ⟨b,off,Y⟩/\b<w.heap.size/\Wh.Row w b off ms):=ha;clear ha;generalize qK:ms.length=n at *;have HN:Hid (ms.length=n):=qK;clear qK;go_enter Tryz.func264,Tryz.ntmps264;go_wp2_with fail;go_loopw [3,8] (λo i w'=>∃k:Nat,k<=n/\i=O J k/\Below w.heap.size w w'/\Hid (Pc.Own w.heap.size w' o (dD (ms.take k)))) (λ_ i _=>n-(intOf i).toNat)
 case atStart=>exact⟨0,IF _,rfl,Ia _ _,Pc.bz _ _⟩
 case round=>
  obtain⟨k,hk,rfl,aL,HO⟩:=hrel;have bb:=aL.size;have Xs:(dD (ms.take k)).length<=100:=by rw[sL];have h2:(ms.take k).length<=k:=List.length_take_le _ _;omega
  by_cases aB:k<n
  .obtain⟨b1,o1,hZ,dX,kF⟩:∃b off,pa=Z ⟨b,off,Y⟩/\b<w.heap.size/\Wh.Row w b off ms:=by
    rcases HA.out with h|h
    .have:=HN.out;rw[h] at this;simp at this;omega
    .exact h
   subst hZ;obtain⟨dJ,k8⟩:=cD aL;obtain⟨c0,c1,c2,c3,c4,c5⟩:=kF k (by rw[HN.out];exact aB);have o6:Hid (dD (ms.take (k+1))=dD (ms.take k)++[mH (ms.getD k Wh.dm)]):=EM (by rw[HN.out];exact aB);clear kF;generalize hL2:dD (ms.take (k+1))=L2 at *;have HL2:Hid (dD (ms.take (k+1))=L2):=hL2;clear hL2;generalize dD (ms.take k)=L at *;generalize ms.getD k Wh.dm=m at *;obtain⟨nd,x,y,z,h,s⟩:=m;simp only[mH] at *;go_wp2_with (at_builtin;refine wpList_append_own _ rfl _ _ 297 rfl w.heap.size 27 i0 _ 5 40 QB eP cE gn ga rfl (by omega) _ L.length (Pc.fl L) rfl ?hown ⟨wr.heap.size+1,0,Y⟩ 1 1 (Pc.mQ.mk x y z h s).cs rfl rfl ?hnews (Pc.da _) ?h63 ?hbytes ?hbase ?_)
   case hown=>exact HO.out.below (((Ia _ _).alloc (By _) _).alloc (by simp) _)
   case hnews=>(intro j u hj;rw[Addr.add_lit];exact(dF (by simp)).trans (by simpa[Pc.mQ.cs] using hj))
   case h63=>(unfold Ii;omega)
   case hbytes=>omega
   case hbase=>(simp;omega)
   intro v' w2 r1 r2 r3;have gV:Hid (Below w.heap.size w w2):=((aL.alloc bb _).alloc (by simp;omega) _).grown r2 (by simp;omega) (λj hj=>(HO.out.lt j hj).1);have Sf:Hid (Pc.Own w.heap.size w2 v' (L++[⟨x,y,z,h,s⟩])):=Pc.ew r1;clear r1 r2 r3;go_wp2_with fail;exact⟨⟨k+1,by omega,by go_num,gV.out,by rw[HL2.out,o6.out];exact Sf.out⟩,by simp[intOf];omega⟩
  .have gj:k=n:=by omega
   subst gj;have HFO:Hid (Pc.Own w.heap.size wr u3 (dD ms)):=by
    have h:=HO.out;rw[List.take_of_length_le (by rw[HN.out];exact By _)] at h;exact h
   go_wp2_with fail;go_ret;exact⟨u3,rfl,HFO.out,aL⟩
def dz(m:Pc.mQ):Pl:=⟨m.x,m.y,m.z,m.h,m.s⟩
theorem Pn{w:World}{b off:Nat}{ms:List Pc.mQ}(h:Pc.Row w b off ms):pG w b off (ms.map dz):=λk hk=>by
 have hk':k<ms.length:=by simpa using hk
 have e:(ms.map dz).getD k dp=dz (ms.getD k Pc.dm):=by simp[Io,Ic hk']
 obtain⟨h0,h1,h2,h3,h4⟩:=h k hk';rw[e];exact⟨h0,h1,h2,h3,h4⟩
theorem EN(p:Pl)(a1 a2:Option Addr)(n m c1 c2:Nat)(w:World)(h:100<n\/100<m) :
 Calls be 243 #[Ip #[O J p.x,O J p.y,O J p.z,O J p.h,O J p.s],U a1 n c1,U a2 m c2] w λe w'=>e=sh (Il #[U Y 0 0,O J 2])/\Below w.heap.size w w':=by
 have hc:decide (100<(n:Int))=true\/(decide (100<(n:Int))=false/\decide (100<(m:Int))=true):=by
  simp only[decide_eq_true_eq,decide_eq_false_iff_not];omega
 clear h;rcases hc with h1|⟨h1,h2⟩;all_goals
  go_enter Tryz.func243,Tryz.ntmps243;go_wp2_with fail;go_ret2;exact⟨rfl,(Ia _ _).alloc (By _) _⟩
abbrev Pl.v5(p:Pl):List Value:=[O J p.x,O J p.y,O J p.z,O J p.h,O J p.s]
theorem yt{base g c n:Nat}{w:World}{p:Pl}{ms:List Pc.mQ}(hn:ms.length=n)(h:w.ownsRow base 27 5 (U (Z ⟨g,0,Y⟩) (1+n) c) (1+n) (p.v5++Pc.fl ms)):pG w g 0 (p::ms.map dz):=by
 have e:p.v5++Pc.fl ms=Pc.fl (⟨p.x,p.y,p.z,p.h,p.s⟩::ms):=by rw[Pc.bJ];rfl
 rw[e] at h;have h2:Pc.Own base w (U (Z ⟨g,0,Y⟩) (Pc.mQ.mk p.x p.y p.z p.h p.s::ms).length c) (⟨p.x,p.y,p.z,p.h,p.s⟩::ms):=by
  show World.ownsRow _ _ _ _ _ _ _;rw[show(Pc.mQ.mk p.x p.y p.z p.h p.s::ms).length=1+n by rw[I5,hn];omega];exact h
 have h3:Pc.Row w g 0 (⟨p.x,p.y,p.z,p.h,p.s⟩::ms):=λj hj=>by
  have:=Pc.lU h2 j hj;simpa only[I3] using this
 have h4:=Pn h3;exact h4
theorem oe{X:World}{p:Pl}{b base:Nat}(hX:X.heap[b]?=Z (AI #[O J p.x,O J p.y,O J p.z,O J p.h,O J p.s] 27 (0,0)))(hb:base<=b):X.ownsRow base 27 5 (U (Z ⟨b,0,Y⟩) 1 1) 1 p.v5:=
 ⟨rfl,.inr ⟨b,1,_,rfl,hb,hX,By _,by decide,rfl,rfl⟩⟩
theorem lF{base g n c m s:Nat}{e:TypeId}{w:World}{xs:List Value}(h:w.ownsRow base e s (U (Z ⟨g,0,Y⟩) n c) m xs):∀j u,xs[j]?=Z u->w.cell? (Addr.add ⟨g,0,Y⟩ j)=Z u:=λj u hj=>by
 have hl:j<xs.length:=(List.getElem?_eq_some_iff.1 hj).1;rw[Addr.add_lit,I3];rcases h.2 with⟨h1,_⟩|⟨g',c',cur,h1,dN,hg,fa,dO,cJ,aV⟩
 .cases h1
 .simp only[IS,JA,Addr.mk.injEq] at h1
  obtain⟨⟨rfl,_,_⟩,_,_⟩:=h1;rw[af hg,<- hj,<- aV,IL (by rw[<- h.1];exact hl)];simp
theorem mj{W w3:World}{p:Pl}{H:Nat}(hs:W.heap.size=H)(h:Below (W.alloc (AI #[O J p.x,O J p.y,O J p.z,O J p.h,O J p.s] 27)).drew.heap.size (W.alloc (AI #[O J p.x,O J p.y,O J p.z,O J p.h,O J p.s] 27)).drew w3) :
 w3.heap[H]?=Z (AI #[O J p.x,O J p.y,O J p.z,O J p.h,O J p.s] 27 (0,0)):=by
 rw[h.block H (by simp;omega),<- hs];exact Ie W _
theorem EO(p:Pl)(ms:List Wh.cd)(v:Value)(a2:Option Addr)(m c2:Nat)(w:World)(hv:Wh.Sl w v ms)(hn:ms.length<=100)(mG:0<ms.length)(hm:m<=100)(hb:gN (p::(dD ms).map dz)=3) :
 Calls be 243 #[Ip #[O J p.x,O J p.y,O J p.z,O J p.h,O J p.s],v,U a2 m c2] w λe w'=>e=sh (Il #[U Y 0 0,O J 3])/\Below w.heap.size w w':=by
 obtain⟨i0,eP,cE,gn,ga⟩:=info_parts Tryz.Bf;have HV:Hid (Wh.Sl w v ms):=hv;have MV:(dD ms).length=ms.length:=sL ms;have HP:Hid (∀W,Wh.Sl W v ms->Calls be 264 #[v] W λe w'=>∃g c,e=sh (U (Z ⟨g,0,Y⟩) ms.length c)/\Pc.Own W.heap.size w' (U (Z ⟨g,0,Y⟩) ms.length c) (dD ms)/\Below W.heap.size W w'):=λW h=>by
  refine(sM ms v W h hn).mono ?_;rintro e w' ⟨v',rfl,ho,aL⟩;obtain⟨g,c,oR⟩:=Pc.jG ho 0 (by omega);subst oR;rw[MV] at ho;exact⟨g,c,by rw[MV],ho,aL⟩
 have HK:Hid (∀g c W,pG W g 0 (p::(dD ms).map dz)->Calls be 263 #[U (Z ⟨g,0,Y⟩) (1+ms.length) c] W λe w'=>e=sh (O J 3)/\Below W.heap.size W w'):=λg c W h=>by
  have h2:=gD (p::(dD ms).map dz) g 0 (1+ms.length) c W (by simp[MV];omega) h (by omega);rw[hb] at h2;exact h2
 obtain⟨pa,ca,oR,_,_⟩:=hv;subst oR;have h1:decide (100<(ms.length:Int))=false:=by simp;omega
 have h2:decide (100<(m:Int))=false:=by simp;omega
 clear hb;generalize qK:ms.length=n at *;have HN:Hid (ms.length=n):=qK;clear qK;have Po:Hid ((dD ms).length=n):=MV;clear MV;go_enter Tryz.func243,Tryz.ntmps243;go_wp2_with fail;obtain⟨W,hW⟩:∃W,W=w.alloc (AI #[O J p.x,O J p.y,O J p.z,O J p.h,O J p.s] 27):=⟨_,rfl⟩;rw[<- hW];have eG:Below w.heap.size w W:=by rw[hW];exact(Ia _ _).alloc (By _) _
 have lX:W.heap[w.heap.size]?=Z (AI #[O J p.x,O J p.y,O J p.z,O J p.h,O J p.s] 27 (0,0)):=by rw[hW];exact Ie w _
 have pY:W.heap.size=w.heap.size+1:=by rw[hW];simp
 have n0:W.cell? ⟨w.heap.size,0,Y⟩=Z (O J p.x):=af lX 0;have n1:W.cell? ⟨w.heap.size,1,Y⟩=Z (O J p.y):=af lX 1;have n2:W.cell? ⟨w.heap.size,2,Y⟩=Z (O J p.z):=af lX 2;have n3:W.cell? ⟨w.heap.size,3,Y⟩=Z (O J p.h):=af lX 3;have n4:W.cell? ⟨w.heap.size,4,Y⟩=Z (O J p.s):=af lX 4;have HVW:Hid (∀W',Below W.heap.size W W'->Wh.Sl W' (U pa n ca) ms):=λW' h=>(HV.out.below eG).below h;have uv:Hid (Below w.heap.size w W):=eG;have e0:=Jo W _ n0;have e1:=Jo W _ n1;have e2:=Jo W _ n2;have e3:=Jo W _ n3;have e4:=Jo W _ n4;clear lX hW eG;have h63:1+n<=Ii:=by unfold Ii;omega
 have Ng:(1+n)*40<=140737488355328:=by omega
 have qP:(Pc.fl (dD ms)).length=n*5:=by rw[Pc.cS,Po.out]
 have Nh:(Value.slice (Z ⟨w.heap.size+1,0,Y⟩) 1 1).ownBlock≠Z w.heap.size:=λh=>by simp[I2] at h
 go_region_held3 (λw'=>w'.cell? ⟨w.heap.size,0,Y⟩=Z (O J p.x)/\w'.cell? ⟨w.heap.size,1,Y⟩=Z (O J p.y)/\w'.cell? ⟨w.heap.size,2,Y⟩=Z (O J p.z)/\w'.cell? ⟨w.heap.size,3,Y⟩=Z (O J p.h)/\w'.cell? ⟨w.heap.size,4,Y⟩=Z (O J p.s))
  (first
    |go_keep
    |(go_split_ands
      refine⟨?_,?_,?_,?_,?_⟩;all_goals ((rw[gK.cell (by show w.heap.size<_;have h8:=bU.size;have h9:=bn.size;simp at h8 h9;omega)];assumption)))
    |(go_split_ands
      refine⟨?_,?_,?_,?_,?_⟩;all_goals ((rw[bU.cell_far _ (by show w.heap.size<_;have:=bn.size;simp at this ⊢;omega) (Ne.symm Nh)];assumption)))
    |(go_split_ands
      refine⟨?_,?_,?_,?_,?_⟩;all_goals ((rw[bU.cell_far _ (by show w.heap.size<_;have:=bn.size;simp at this ⊢;omega) (by simp[I2];have:=bn.size;simp at this;omega)];assumption)))
    |(go_split_ands
      refine⟨?_,?_,?_,?_,?_⟩;all_goals ((rw[bn.cell (by simp;omega)];first|assumption|simp[*])))
    )
  (first
    |(go_at_call 264;refine(HP.out _ (HVW.out _ ?_)).mono ?_;(focus (repeat(first|exact Ia _ _|refine Below.drew ?_|refine Below.alloc ?_ (by simp) _)));rintro e w3 ⟨g,c,rfl,nu,bn⟩)
    |(go_at_call 263;refine(HK.out _ _ _ (yt Po.out ib)).mono ?_;rintro e w6 ⟨rfl,gK⟩)
    |(refine Qz _ (by rfl) _ _ _ (by rfl) w.heap.size 27 i0 _ 5 40 QB eP cE gn ga rfl (by omega) (U (Z ⟨w.heap.size+1,0,Y⟩) 1 1) 1 p.v5 (by rfl) (oe (mj pY bn) (by omega)) ⟨g,0,Y⟩ n c (Pc.fl (dD ms)) (by rfl) qP (lF nu) (Pc.fL _) mG h63 Ng (by have:=bn.size;simp at this;omega) _ rfl ?_
      intro gg cap w5 ib bU cG aB)
    |(refine Qz _ (by rfl) _ _ _ (by rfl) w.heap.size 27 i0 _ 5 40 QB eP cE gn ga rfl (by omega) (U (Z ⟨w3.heap.size,0,Y⟩) 1 1) 1 p.v5 (by rfl) (oe (Ie w3 _) (by have:=bn.size;simp at this;omega)) ⟨g,0,Y⟩ n c (Pc.fl (dD ms)) (by rfl) qP (lF (nu.below ((Ia _ _).alloc (By _) _))) (Pc.fL _) mG h63 Ng (by have:=bn.size;simp at this ⊢;omega) _ rfl ?_
      intro gg cap w5 ib bU cG aB))
 all_goals
  have iW:Hid (Below w.heap.size w w6):=by
   first
    |exact((((uv.out.alloc (by omega) _).drew.trans (bn.mono (by simp;omega))).grown bU (by have:=bn.size;simp at this;omega) (λj hj=>by simp[I2] at hj;omega))).trans (gK.mono (by have h8:=bU.size;have h9:=bn.size;simp at h8 h9;omega))
    |exact(((uv.out.drew.trans (bn.mono (by simp;omega))).alloc (by have:=bn.size;simp at this;omega) _).grown bU (by have:=bn.size;simp at this ⊢;omega) (λj hj=>by simp[I2] at hj;have:=bn.size;simp at this;omega)).trans (gK.mono (by have h8:=bU.size;have h9:=bn.size;simp at h8 h9;omega))
  clear gK bU ib cG aB bn nu Nh;go_wp2_with fail;go_ret2;exact⟨rfl,iW.out⟩
theorem qg(a:Option Addr)(c:Nat)(w:World) :
 Calls be 264 #[U a 0 c] w λe w'=>e=sh (U Y 0 0)/\w'=w:=by
 go_enter Tryz.func264,Tryz.ntmps264;go_wp2_with fail;go_loopw [3,8] (λo i w'=>o=U Y 0 0/\i=O J 0/\w'=w) (λ_ _ _=>0)
 case atStart=>exact⟨rfl,rfl,rfl⟩
 case round=>
  obtain⟨rfl,rfl,hw⟩:=hrel;subst hw;go_wp2_with fail;go_ret;exact⟨rfl,rfl⟩
theorem ml{X:World}{p:Pl}{b:Nat}(hX:X.heap[b]?=Z (AI #[O J p.x,O J p.y,O J p.z,O J p.h,O J p.s] 27 (0,0))):pG X b 0 [p]:=λk hk=>by
 have:k=0:=by simpa using hk
 subst this;exact⟨af hX 0,af hX 1,af hX 2,af hX 3,af hX 4⟩
theorem ER(p:Pl)(a1 a2:Option Addr)(m c1 c2:Nat)(w:World)(hm:m<=100)(hb:gN [p]=3) :
 Calls be 243 #[Ip #[O J p.x,O J p.y,O J p.z,O J p.h,O J p.s],U a1 0 c1,U a2 m c2] w λe w'=>e=sh (Il #[U Y 0 0,O J 3])/\Below w.heap.size w w':=by
 have HP:Hid (∀W,Calls be 264 #[U a1 0 c1] W λe w'=>e=sh (U Y 0 0)/\Below W.heap.size W w'):=λW=>by
  refine(qg a1 c1 W).mono ?_;rintro e w' ⟨rfl,rfl⟩;exact⟨rfl,Ia _ _⟩
 have HK:Hid (∀g W,pG W g 0 [p]->Calls be 263 #[U (Z ⟨g,0,Y⟩) 1 1] W λe w'=>e=sh (O J 3)/\Below W.heap.size W w'):=λg W h=>by
  have h2:=gD [p] g 0 1 1 W rfl h (by omega);rw[hb] at h2;exact h2
 have h2:decide (100<(m:Int))=false:=by simp;omega
 clear hb;go_enter Tryz.func243,Tryz.ntmps243;go_wp2_with fail;obtain⟨W,hW⟩:∃W,W=w.alloc (AI #[O J p.x,O J p.y,O J p.z,O J p.h,O J p.s] 27):=⟨_,rfl⟩;rw[<- hW];have eG:Below w.heap.size w W:=by rw[hW];exact(Ia _ _).alloc (By _) _
 have lX:W.heap[w.heap.size]?=Z (AI #[O J p.x,O J p.y,O J p.z,O J p.h,O J p.s] 27 (0,0)):=by rw[hW];exact Ie w _
 have pY:W.heap.size=w.heap.size+1:=by rw[hW];simp
 have n0:W.cell? ⟨w.heap.size,0,Y⟩=Z (O J p.x):=af lX 0;have n1:W.cell? ⟨w.heap.size,1,Y⟩=Z (O J p.y):=af lX 1;have n2:W.cell? ⟨w.heap.size,2,Y⟩=Z (O J p.z):=af lX 2;have n3:W.cell? ⟨w.heap.size,3,Y⟩=Z (O J p.h):=af lX 3;have n4:W.cell? ⟨w.heap.size,4,Y⟩=Z (O J p.s):=af lX 4;have uv:Hid (Below w.heap.size w W):=eG;have e0:=Jo W _ n0;have e1:=Jo W _ n1;have e2:=Jo W _ n2;have e3:=Jo W _ n3;have e4:=Jo W _ n4;clear lX hW eG;go_region_held3 (λw'=>w'.cell? ⟨w.heap.size,0,Y⟩=Z (O J p.x)/\w'.cell? ⟨w.heap.size,1,Y⟩=Z (O J p.y)/\w'.cell? ⟨w.heap.size,2,Y⟩=Z (O J p.z)/\w'.cell? ⟨w.heap.size,3,Y⟩=Z (O J p.h)/\w'.cell? ⟨w.heap.size,4,Y⟩=Z (O J p.s))
  (first
    |go_keep
    |(go_split_ands
      refine⟨?_,?_,?_,?_,?_⟩;all_goals ((rw[gK.cell (by show w.heap.size<_;have h9:=bn.size;simp at h9 ⊢;omega)];first|assumption|simp[*])))
    |(go_split_ands
      refine⟨?_,?_,?_,?_,?_⟩;all_goals ((rw[bn.cell (by simp;omega)];first|assumption|simp[*])))
    )
  (first
    |(go_at_call 264;refine(HP.out _).mono ?_;rintro e w3 ⟨rfl,bn⟩)
    |(go_at_call 263;refine(HK.out _ _ (ml (mj pY bn))).mono ?_;rintro e w6 ⟨rfl,gK⟩)
    |(go_at_call 263;refine(HK.out _ _ (ml (Ie w3 _))).mono ?_;rintro e w6 ⟨rfl,gK⟩))
 all_goals
  have iW:Hid (Below w.heap.size w w6):=by
   first
    |exact((uv.out.alloc (by omega) _).drew.trans (bn.mono (by simp;omega))).trans (gK.mono (by have h9:=bn.size;simp at h9;omega))
    |exact((uv.out.drew.trans (bn.mono (by simp;omega))).alloc (by have:=bn.size;simp at this;omega) _).trans (gK.mono (by have h9:=bn.size;simp at h9 ⊢;omega))
  clear gK bn;go_wp2_with fail;go_ret2;exact⟨rfl,iW.out⟩
end Go.Proofs.YtfidjlcdlakceaaGreatDoor
namespace Go.Proofs.YtfidjlcdlakceaaGreatDoor
open Go.RowKit Go.WideMaps Go.Maps
def Dd(f:Wh.cd->Int)(ms:List Wh.cd):Nat->DataW Unit
 |0=>.map []
 |k+1=>if OK (Dd f ms k) (kS (ms.getD k Wh.dm).node)=true then Dd f ms k else(Dd f ms k).put (kS (ms.getD k Wh.dm).node) (.lit (.int J (f (ms.getD k Wh.dm))))
theorem Sr:Keyed be 9:=string_keyed Iv
theorem Pp(w:World):(zeroValue 3).run be w=.ok (O J 0) w:=by kernel_rfl
theorem pH(n:Int)(w:World):(Instr.makeMap 223 (Z (O J n))).run be w=.ok (.map (Z w.heap.size)) (w.alloc (.map #[] 0)):=by
 have h:=QS JG;simp[Instr.makeMap,h,asInt,newObj];rfl
theorem vv{w:World}{b n:Nat}{D:DataW Unit}(h:w.ownsMap be 9 (Jk (H:=Unit) be 3) b n D){s:ByteArray}(hs:s.size<=Ii) :
 ∃c:Int,(Instr.lookup 223 (.map (Z b)) (I s) true).run be w=.ok (Il #[O J c,AT (OK D (kS s))]) w/\D.atKey (kS s) (.lit (.int J 0))=.lit (.int J c):=by
 obtain⟨v,ps,gO,hv⟩:=h.look_ok Sr JG (Pp _) (plainElem_int Iz (by decide)) (keyOf_string_mk Iv hs);obtain⟨c,rfl,hc,_⟩:=plainElem_int_inv Iz hv;exact⟨c,gO,congrArg Prod.fst hc⟩
def iv(p:Pl)(m:Wh.cd):Int:=K9 p (dz (mH m))
theorem Pr{p:Pl}{m:Wh.cd}(hp:uy p)(hm:uy (dz (mH m))):0<=iv p m/\iv p m<=1000000000:=by
 obtain⟨h1,h2⟩:=vx hp hm;have h3:iv p m=jz p (dz (mH m))+p.h+(dz (mH m)).h:=rfl;have h4:=hp.h0;have h5:=hp.h1;have h6:=hm.h0;have h7:=hm.h1;omega
theorem aap{d:Int}(h0 : -9223372036854775808<=d)(h1:d<=9223372036854775807):(Lit.int .i64 d).wf=true:=by
 show(decide (IntKind.i64.min<=d)&&decide (d<=IntKind.i64.max))=true;rw[Bool.and_eq_true,decide_eq_true_eq,decide_eq_true_eq];exact⟨h0,h1⟩
theorem iB{w w':World}{b n:Nat}{D:DataW Unit}(h:w.ownsMap be 9 (Jk (H:=Unit) be 3) b n D)(hb:Below w.heap.size w w'):w'.ownsMap be 9 (Jk (H:=Unit) be 3) b n D:=by
 have hl:=h.lt;obtain⟨es,clock,h1,h2⟩:=h;exact⟨es,clock,(hb.block b hl).trans h1,h2⟩
theorem uz(p:Pl)(ms:List Wh.cd)(v:Value)(w:World)(hv:Wh.Sl w v ms)(hn:ms.length<=100)(hp:uy p)(mU:∀j,j<ms.length->uy (dz (mH (ms.getD j Wh.dm)))) :
 Calls be 265 #[Ip #[O J p.x,O J p.y,O J p.z,O J p.h,O J p.s],v] w λe w'=>∃g,e=sh (.map (Z g))/\w'.ownsMap be 9 (Jk (H:=Unit) be 3) g ms.length (Dd (iv p) ms ms.length)/\w.heap.size<=g/\g<w'.heap.size/\Below w.heap.size w w':=by
 obtain⟨pa,ca,rfl,bb,ha⟩:=hv;have HA:Hid (ms=[]\/∃b off,pa=Z ⟨b,off,Y⟩/\b<w.heap.size/\Wh.Row w b off ms):=ha;have HS:Hid (∀j,(ms.getD j Wh.dm).ok):=bb;have AU:Hid (∀j,j<ms.length->uy (dz (mH (ms.getD j Wh.dm)))):=mU;have HPO:Hid (uy p):=hp;clear ha bb mU hp;generalize hN:ms.length=n at *;have HN:Hid (ms.length=n):=hN;clear hN;have oS:=pH;go_enter Tryz.func265,Tryz.ntmps265;go_wp2_with fail;have lX:((w.alloc (AI #[O J p.x,O J p.y,O J p.z,O J p.h,O J p.s] 27)).alloc (.map #[] 0)).heap[w.heap.size]?=Z (AI #[O J p.x,O J p.y,O J p.z,O J p.h,O J p.s] 27 (0,0)):=by
  rw[It _ _ _ (by simp)];exact Ie w _
 have uv:Hid (Below w.heap.size w ((w.alloc (AI #[O J p.x,O J p.y,O J p.z,O J p.h,O J p.s] 27)).alloc (.map #[] 0))):=((Ia _ _).alloc (By _) _).alloc (by simp) _;have uX:Hid (((w.alloc (AI #[O J p.x,O J p.y,O J p.z,O J p.h,O J p.s] 27)).alloc (.map #[] 0)).ownsMap be 9 (Jk (H:=Unit) be 3) (w.heap.size+1) 0 (.map [])):=by
  have h:=Uj (w.alloc (AI #[O J p.x,O J p.y,O J p.z,O J p.h,O J p.s] 27)) be 9 (Jk (H:=Unit) be 3);rw[show(w.alloc (AI #[O J p.x,O J p.y,O J p.z,O J p.h,O J p.s] 27)).heap.size=w.heap.size+1 by simp] at h;exact h
 generalize(w.alloc (AI #[O J p.x,O J p.y,O J p.z,O J p.h,O J p.s] 27)).alloc (.map #[] 0)=W at *;go_loopw [15] (λi wr=>∃k:Nat,k<=n/\i=O J k/\Hid (wr.ownsMap be 9 (Jk (H:=Unit) be 3) (w.heap.size+1) k (Dd (iv p) ms k))/\Hid (Below w.heap.size w wr)/\Hid (wr.heap[w.heap.size]?=Z (AI #[O J p.x,O J p.y,O J p.z,O J p.h,O J p.s] 27 (0,0)))) (λi _=>n-(intOf i).toNat)
 case atStart=>exact⟨0,IF _,rfl,uX,uv,lX⟩
 case round=>
  obtain⟨k,hk,rfl,HO,HB,HG⟩:=hrel;have Vw:=HO.out.lt;by_cases aB:k<n
  .obtain⟨b,off,hZ,dX,hr⟩:∃b off,pa=Z ⟨b,off,Y⟩/\b<w.heap.size/\Wh.Row w b off ms:=by
    rcases HA.out with h|h
    .have:=HN.out;rw[h] at this;simp at this;omega
    .exact h
   subst hZ;obtain⟨c0,c1,c2,c3,c4,c5⟩:=hr.later HB.out dX k (by rw[HN.out];exact aB);have bb:(ms.getD k Wh.dm).node.size<=Ii:=HS.out k;have Bc:keyOf be 9 (I (ms.getD k Wh.dm).node)=Z (kS (ms.getD k Wh.dm).node):=keyOf_string_mk Iv bb;obtain⟨lc,hlk,_⟩:=vv (HO.out.alloc (AI #[I (ms.getD k Wh.dm).node,O J (ms.getD k Wh.dm).x,O J (ms.getD k Wh.dm).y,O J (ms.getD k Wh.dm).z,O J (ms.getD k Wh.dm).h,O J (ms.getD k Wh.dm).s] 142)) bb;have HOM:Hid (uy (dz (mH (ms.getD k Wh.dm)))):=AU.out k aB;have HDD:Hid (Dd (iv p) ms (k+1)=if OK (Dd (iv p) ms k) (kS (ms.getD k Wh.dm).node)=true then Dd (iv p) ms k else(Dd (iv p) ms k).put (kS (ms.getD k Wh.dm).node) (.lit (.int J (iv p (ms.getD k Wh.dm))))):=rfl;generalize M4:Dd (iv p) ms (k+1)=D2 at *;have kP:Hid (Dd (iv p) ms (k+1)=D2):=M4;clear M4 hr;generalize Dd (iv p) ms k=D at *;generalize ms.getD k Wh.dm=m at *;rcases hhas:OK D (kS m.node) with _|_
   .rw[hhas] at hlk
    have HDP:Hid (D2=D.put (kS m.node) (.lit (.int J (iv p m)))):=by have h:=HDD.out;rw[hhas] at h;exact h
    clear HDD;have afz:Hid (∀W,Calls be 286 #[Ip #[O J p.x,O J p.y,O J p.z,O J p.h,O J p.s],Ip #[O J m.x,O J m.y,O J m.z,O J m.h,O J m.s]] W λe w'=>e=sh (O J (iv p m))/\Below W.heap.size W w'):=λW=>Ps p (dz (mH m)) W HPO.out HOM.out;have hfb:=Pr HPO.out HOM.out;have HEL:Hid (Jk (H:=Unit) be 3 (O J (iv p m))=Z (.lit (.int J (iv p m)),[])):=plainElem_int Iz (aap (by omega) (by omega));generalize iv p m=fd at *;obtain⟨nd,x,y,z,h,s⟩:=m;simp only at *;go_wp2_with fail;obtain⟨X,hX⟩:∃X,X=wr.alloc (AI #[I nd,O J x,O J y,O J z,O J h,O J s] 142):=⟨_,rfl⟩;rw[<- hX];have Ss:Below wr.heap.size wr X:=by rw[hX];exact(Ia _ _).alloc (By _) _
    have eL:X.heap[wr.heap.size]?=Z (AI #[I nd,O J x,O J y,O J z,O J h,O J s] 142 (0,0)):=by rw[hX];exact Ie wr _
    have hsX:X.heap.size=wr.heap.size+1:=by rw[hX];simp
    have Vx:X.heap[w.heap.size]?=Z (AI #[O J p.x,O J p.y,O J p.z,O J p.h,O J p.s] 27 (0,0)):=(Ss.block _ (by omega)).trans HG.out;have Sf:Hid (X.ownsMap be 9 (Jk (H:=Unit) be 3) (w.heap.size+1) k D):=iB HO.out Ss;have gV:Hid (Below w.heap.size w X):=HB.out.trans (Ss.mono HB.out.size);have f0:X.cell? ⟨w.heap.size,0,Y⟩=Z (O J p.x):=af Vx 0;have f1:X.cell? ⟨w.heap.size,1,Y⟩=Z (O J p.y):=af Vx 1;have f2:X.cell? ⟨w.heap.size,2,Y⟩=Z (O J p.z):=af Vx 2;have f3:X.cell? ⟨w.heap.size,3,Y⟩=Z (O J p.h):=af Vx 3;have f4:X.cell? ⟨w.heap.size,4,Y⟩=Z (O J p.s):=af Vx 4;have q0:X.cell? ⟨wr.heap.size,0,Y⟩=Z (I nd):=af eL 0;have q1:X.cell? ⟨wr.heap.size,1,Y⟩=Z (O J x):=af eL 1;have q2:X.cell? ⟨wr.heap.size,2,Y⟩=Z (O J y):=af eL 2;have q3:X.cell? ⟨wr.heap.size,3,Y⟩=Z (O J z):=af eL 3;have q4:X.cell? ⟨wr.heap.size,4,Y⟩=Z (O J h):=af eL 4;have q5:X.cell? ⟨wr.heap.size,5,Y⟩=Z (O J s):=af eL 5;have HGF:Hid (X.heap[w.heap.size]?=Z (AI #[O J p.x,O J p.y,O J p.z,O J p.h,O J p.s] 27 (0,0))):=Vx;have wM:k<Ii:=by unfold Ii;omega
    clear hX Ss eL Vx HG HO;go_region_held3 (λw'=>w'.cell? ⟨w.heap.size,0,Y⟩=Z (O J p.x)/\w'.cell? ⟨w.heap.size,1,Y⟩=Z (O J p.y)/\w'.cell? ⟨w.heap.size,2,Y⟩=Z (O J p.z)/\w'.cell? ⟨w.heap.size,3,Y⟩=Z (O J p.h)/\w'.cell? ⟨w.heap.size,4,Y⟩=Z (O J p.s)/\w'.cell? ⟨wr.heap.size,0,Y⟩=Z (I nd)/\w'.cell? ⟨wr.heap.size,1,Y⟩=Z (O J x)/\w'.cell? ⟨wr.heap.size,2,Y⟩=Z (O J y)/\w'.cell? ⟨wr.heap.size,3,Y⟩=Z (O J z)/\w'.cell? ⟨wr.heap.size,4,Y⟩=Z (O J h)/\w'.cell? ⟨wr.heap.size,5,Y⟩=Z (O J s))
     (first
       |go_keep
       |(go_split_ands
         refine⟨?_,?_,?_,?_,?_,?_,?_,?_,?_,?_,?_⟩;all_goals ((rw[wN.cell_far _ (by first|(show w.heap.size<_;have h9:=xU.size;simp at h9;omega)|(show wr.heap.size<_;have h9:=xU.size;simp at h9;omega)) (by intro e;have e2:=Oc e;first|omega|(simp only at e2;omega))];assumption)))
       |(go_split_ands
         refine⟨?_,?_,?_,?_,?_,?_,?_,?_,?_,?_,?_⟩;all_goals ((rw[xU.cell (by first|(show w.heap.size<_;simp;omega)|(show wr.heap.size<_;simp;omega))];first|assumption|simp[*]))))
     (first
       |(go_at_call 286;refine(afz.out _).mono ?_;rintro e w8 ⟨rfl,xU⟩;obtain⟨w9,aar,Su,wN⟩:=(iB (show X.drew.ownsMap _ _ _ _ _ _ from Sf.out.drew) xU).update Sr JG wM Bc HEL.out))
    have h8s:X.heap.size<=w8.heap.size:=by have h9:=xU.size;simpa using h9
    have rI:Hid (Below w.heap.size w w9):=(gV.out.drew.trans (xU.mono (by simp;omega))).grown wN (by omega) (λj hj=>by cases hj;omega);have HG9:Hid (w9.heap[w.heap.size]?=Z (AI #[O J p.x,O J p.y,O J p.z,O J p.h,O J p.s] 27 (0,0))):=by
     have h1:=wN.block w.heap.size (by omega) (by intro e;have e2:=Oc e;omega);have h2:=xU.block w.heap.size (by simp;omega);exact h1.trans (h2.trans HGF.out)
    have HO9:Hid (w9.ownsMap be 9 (Jk (H:=Unit) be 3) (w.heap.size+1) (k+1) (D.put (kS nd) (.lit (.int J fd)))):=Su;clear xU aar Su wN;go_wp2_with fail;exact⟨⟨k+1,by omega,by go_num,by rw[kP.out,HDP.out];exact HO9.out,rI,HG9⟩,by simp[intOf];omega⟩
   .rw[hhas] at hlk
    have HDP:Hid (D2=D):=by have h:=HDD.out;rw[hhas] at h;exact h
    clear HDD;obtain⟨nd,x,y,z,h,s⟩:=m;simp only at *;go_wp2_with fail;have Xx:Below wr.heap.size wr (wr.alloc (AI #[I nd,O J x,O J y,O J z,O J h,O J s] 142)):=(Ia _ _).alloc (By _) _;exact⟨⟨k+1,by omega,by go_num,by rw[kP.out,HDP.out];exact(HO.out.alloc _).mono (by omega),HB.out.alloc HB.out.size _,(Xx.block _ (by omega)).trans HG.out⟩,by simp[intOf];omega⟩
  .have gj:k=n:=by omega
   subst gj;go_wp2_with fail;go_ret;exact⟨_,rfl,HO.out,by omega,Vw,HB.out⟩
end Go.Proofs.YtfidjlcdlakceaaGreatDoor
namespace Go.Proofs.YtfidjlcdlakceaaGreatDoor
open Go.RowKit
theorem Vy(a b:ByteArray):(a.toList==b.toList)=decide (a=b):=by
 by_cases h:a=b
 .subst h;simp
 .rw[(eJ h).1,decide_eq_false h]
theorem La(m:Mem)(nb:Nat)(nm:ByteArray)(w:World)(h:w.cell? ⟨nb,0,Y⟩=Z (I nm)) :
 Calls be 241 #[Ip #[I m.name,O J m.state,O J m.aP,O J m.addr,AT m.server],.pointer (Z ⟨nb,0,Y⟩)] w λe w'=>e=sh (AT (decide (m.name=nm)))/\w'=w.alloc (AI #[I m.name,O J m.state,O J m.aP,O J m.addr,AT m.server] 70):=by
 have hb:nb<w.heap.size:=IE w _ h;have h2:∀ob,(w.alloc ob).cell? ⟨nb,0,Y⟩=Z (I nm):=λob=>by
  rw[((Ia w.heap.size w).alloc (By _) ob).cell (p:=⟨nb,0,Y⟩) hb];exact h
 obtain⟨mn,st,lf,ad,sv⟩:=m;go_enter Tryz.func241,Tryz.ntmps241;go_wp2_with fail;go_ret;exact⟨az (Vy _ _),rfl⟩
theorem Bg(ms:List Mem)(pa:Option Addr)(n c nb:Nat)(nm:ByteArray)(w:World)(hv:Sl w (U pa n c) ms)(Aw:n<=1000)(ht:w.cell? ⟨nb,0,Y⟩=Z (I nm)) :
 Calls be 158 #[U pa n c,.func (.func 241) #[] #[.pointer (Z ⟨nb,0,Y⟩)]] w λe w'=>
  ((e=sh (O J (-1))/\Hid (cM ms nm=Y))\/(∃i:Nat,i<n/\e=sh (O J i)/\Hid (cM ms nm=Z (ms.getD i dm))))/\Below w.heap.size w w':=by
 obtain⟨X9,ca,he,_,ha⟩:=hv;simp only[IS] at he;obtain⟨rfl,hN,rfl⟩:=he;have HA:Hid (ms=[]\/∃b off,pa=Z ⟨b,off,Y⟩/\b<w.heap.size/\Row w b off ms):=ha;have HN:Hid (ms.length=n):=hN.symm;have HT:Hid (w.cell? ⟨nb,0,Y⟩=Z (I nm)):=ht;have Pt:nb<w.heap.size:=IE w _ ht;clear ha hN ht;go_enter Tryz.func158,Tryz.ntmps158;go_wp2_with fail;go_loopw [8] (λi wr=>∃k:Nat,k<=n/\i=O J k/\Hid (∀j,j<k->(ms.getD j dm).name≠nm)/\Hid (Below w.heap.size w wr)) (λi _=>n-(intOf i).toNat)
 case atStart=>exact⟨0,IF _,rfl,λj hj=>by omega,Ia _ _⟩
 case round=>
  obtain⟨k,hk,rfl,HZ,HB⟩:=hrel;by_cases aB:k<n
  .obtain⟨b,off,hZ,dX,hr⟩:∃b off,pa=Z ⟨b,off,Y⟩/\b<w.heap.size/\Row w b off ms:=by
    rcases HA.out with h|h
    .have:=HN.out;rw[h] at this;simp at this;omega
    .exact h
   subst hZ;obtain⟨c0,c1,c2,c3,c4⟩:=hr.later HB.out dX k (by rw[HN.out];exact aB);clear hr;have Af:wr.cell? ⟨nb,0,Y⟩=Z (I nm):=by rw[HB.out.cell (p:=⟨nb,0,Y⟩) Pt];exact HT.out
   have HY:Hid ((ms.getD k dm).name=nm->cM ms nm=Z (ms.getD k dm)):=λh=>mi (by rw[HN.out];exact aB) HZ.out h;have fm:Hid ((ms.getD k dm).name≠nm->∀j,j<k+1->(ms.getD j dm).name≠nm):=λh j hj=>by
    by_cases e:j=k
    .subst e;exact h
    .exact HZ.out j (by omega)
   have hF:=λw h=>La (ms.getD k dm) nb nm w h;by_cases jZ:(ms.getD k dm).name=nm
   .have HF:Hid (cM ms nm=Z (ms.getD k dm)):=HY.out jZ
    rw[decide_eq_true jZ] at hF;clear jZ fm HY;generalize Sw:ms.getD k dm=mk at *;have HMK:Hid (ms.getD k dm=mk):=Sw;clear Sw;obtain⟨mn,st,lf,ad,sv⟩:=mk;simp only at c0 c1 c2 c3 c4 hF;go_wp2_with fail;refine(hF _ Af).mono ?_;rintro e w1 ⟨rfl,rfl⟩;go_wp2_with fail;go_ret;exact⟨.inr ⟨k,aB,rfl,by rw[HMK.out];exact HF⟩,HB.out.alloc HB.out.size _⟩
   .have jM:Hid (∀j,j<k+1->(ms.getD j dm).name≠nm):=fm.out jZ
    rw[decide_eq_false jZ] at hF;clear jZ fm HY HZ;generalize ms.getD k dm=mk at *;obtain⟨mn,st,lf,ad,sv⟩:=mk;simp only at c0 c1 c2 c3 c4 hF;go_wp2_with fail;refine(hF _ Af).mono ?_;rintro e w1 ⟨rfl,rfl⟩;go_wp2_with fail;go_roundw
    case rel=>exact⟨k+1,by omega,by go_num,jM,HB.out.alloc HB.out.size _⟩
    case measure=>simp[intOf];omega
  .have jM:Hid (cM ms nm=Y):=mh λj hj=>HZ.out j (by have:=HN.out;omega)
   clear HZ;go_wp2_with fail;go_ret;exact⟨.inl ⟨rfl,jM⟩,HB.out⟩
abbrev eH(here:ByteArray)(vs vm:Value)(px py pz ph pq:Int)(vw:Value):Array Value:=#[I here,vs,vm,O J px,O J py,O J pz,O J ph,O J pq,vw]
theorem vy{ms:List Mem}{t:ByteArray}{m:Mem}(h:cM ms t=Z m):dZ ms t=m:=by unfold dZ;rw[h];rfl
theorem vz{ms:List Mem}{t:ByteArray}(h:cM ms t=Y):dZ ms t=dm:=by unfold dZ;rw[h];rfl
theorem qi(here:ByteArray)(ps pm pw:Option Addr)(ns cs nm cm nw cw:Nat)(px py pz ph pq:Int)(ms:List Mem)(t:ByteArray)(w:World)(hm:Sl w (U pm nm cm) ms)(hn:nm<=1000) :
 Calls be 192 #[Ip (eH here (U ps ns cs) (U pm nm cm) px py pz ph pq (U pw nw cw)),I t] w λe w'=>e=sh (Ip #[I (dZ ms t).name,O J (dZ ms t).state,O J (dZ ms t).aP,O J (dZ ms t).addr,AT (dZ ms t).server])/\Below w.heap.size w w':=by
 have HM:Hid (Sl w (U pm nm cm) ms):=hm;clear hm;go_enter Tryz.func192,Tryz.ntmps192;go_wp2_with fail;obtain⟨W,hW⟩:∃W,W=((w.alloc (AI (eH here (U ps ns cs) (U pm nm cm) px py pz ph pq (U pw nw cw)) 137)).alloc (AI #[I t] 9)).alloc (AI #[I ⟨#[]⟩,O J 0,O J 0,O J 0,AT false] 70):=⟨_,rfl⟩;rw[<- hW];have eG:Below w.heap.size w W:=by rw[hW];exact(((Ia _ _).alloc (By _) _).alloc (by simp) _).alloc (by simp;omega) _
 have eo:W.heap[w.heap.size]?=Z (AI (eH here (U ps ns cs) (U pm nm cm) px py pz ph pq (U pw nw cw)) 137 (0,0)):=by
  rw[hW,It _ _ _ (by simp;omega),It _ _ _ (by simp)];exact Ie w _
 have bf:W.heap[w.heap.size+1]?=Z (AI #[I t] 9 (0,0)):=by
  rw[hW,It _ _ _ (by simp)];have h:=Ie (w.alloc (AI (eH here (U ps ns cs) (U pm nm cm) px py pz ph pq (U pw nw cw)) 137)) (AI #[I t] 9);simpa using h
 have iQ:W.heap[w.heap.size+2]?=Z (AI #[I ⟨#[]⟩,O J 0,O J 0,O J 0,AT false] 70 (0,0)):=by
  rw[hW];have h:=Ie ((w.alloc (AI (eH here (U ps ns cs) (U pm nm cm) px py pz ph pq (U pw nw cw)) 137)).alloc (AI #[I t] 9)) (AI #[I ⟨#[]⟩,O J 0,O J 0,O J 0,AT false] 70);simpa using h
 have pY:w.heap.size+3<=W.heap.size:=by rw[hW];simp
 clear hW;refine(Bg ms pm nm cm _ t W (HM.out.below eG) hn (af bf 0)).mono ?_;rintro e w1 ⟨xq,an⟩;have h0:w1.heap[w.heap.size]?=_:=(an.block _ (by omega)).trans eo;have h2:w1.heap[w.heap.size+2]?=_:=(an.block _ (by omega)).trans iQ;have HB:Hid (Below w.heap.size w w1):=eG.trans (an.mono (by omega));have Sg:Hid (Sl w1 (U pm nm cm) ms):=HM.out.below HB.out;have d2:w1.cell? ⟨w.heap.size,2,Y⟩=Z (U pm nm cm):=af h0 2;have r0:w1.cell? ⟨w.heap.size+2,0,Y⟩=Z (I ⟨#[]⟩):=af h2 0;have r1:w1.cell? ⟨w.heap.size+2,1,Y⟩=Z (O J 0):=af h2 1;have r2:w1.cell? ⟨w.heap.size+2,2,Y⟩=Z (O J 0):=af h2 2;have r3:w1.cell? ⟨w.heap.size+2,3,Y⟩=Z (O J 0):=af h2 3;have r4:w1.cell? ⟨w.heap.size+2,4,Y⟩=Z (AT false):=af h2 4;have z0:w1.frozen? ⟨w.heap.size+2,0,Y⟩=false:=by simp[Ih,h2]
 have z1:w1.frozen? ⟨w.heap.size+2,1,Y⟩=false:=by simp[Ih,h2]
 have z2:w1.frozen? ⟨w.heap.size+2,2,Y⟩=false:=by simp[Ih,h2]
 have z3:w1.frozen? ⟨w.heap.size+2,3,Y⟩=false:=by simp[Ih,h2]
 have z4:w1.frozen? ⟨w.heap.size+2,4,Y⟩=false:=by simp[Ih,h2]
 have jD:w.heap.size+2<w1.heap.size:=(Ib.1 h2).1;clear eG eo bf iQ an h0 h2 pY;rcases xq with⟨rfl,HF⟩|⟨i,hi,rfl,HF⟩
 .have HO:Hid (dZ ms t=dm):=vz HF.out
  go_wp2_with fail;refine Iy (v:=Ip #[I ⟨#[]⟩,O J 0,O J 0,O J 0,AT false]) ?_ rfl ⟨by rw[HO.out];rfl,?_⟩
  .simp[results,Tryz.results192,go_sem,r0,r1,r2,r3,r4]
  exact((((HB.out.setCell (p:=⟨w.heap.size+2,0,Y⟩) (by simp) _).setCell (p:=⟨w.heap.size+2,1,Y⟩) (by simp) _).setCell (p:=⟨w.heap.size+2,2,Y⟩) (by simp) _).setCell (p:=⟨w.heap.size+2,3,Y⟩) (by simp) _).setCell (p:=⟨w.heap.size+2,4,Y⟩) (by simp) _
 .have HO:Hid (dZ ms t=ms.getD i dm):=vy HF.out
  obtain⟨X9,ca,he,_,ha⟩:=Sg.out;simp only[IS] at he;obtain⟨rfl,hN,rfl⟩:=he;obtain⟨b,off,hZ,dX,hr⟩:∃b off,pm=Z ⟨b,off,Y⟩/\b<w1.heap.size/\Row w1 b off ms:=by
   rcases ha with h|h
   .rw[h] at hN;simp at hN;omega
   .exact h
  subst hZ;obtain⟨c0,c1,c2,c3,c4⟩:=hr i (by omega);clear hr hN ha HF;generalize ms.getD i dm=mk at *;obtain⟨mn,st,lf,ad,sv⟩:=mk;simp only at c0 c1 c2 c3 c4;go_wp2_with fail;refine Iy (v:=Ip #[I mn,O J st,O J lf,O J ad,AT sv]) ?_ rfl ⟨by rw[HO.out],?_⟩
  .simp[results,Tryz.results192,go_sem,r0,r1,r2,r3,r4]
  exact((((HB.out.setCell (p:=⟨w.heap.size+2,0,Y⟩) (by simp) _).setCell (p:=⟨w.heap.size+2,1,Y⟩) (by simp) _).setCell (p:=⟨w.heap.size+2,2,Y⟩) (by simp) _).setCell (p:=⟨w.heap.size+2,3,Y⟩) (by simp) _).setCell (p:=⟨w.heap.size+2,4,Y⟩) (by simp) _
theorem ES(a:ByteArray)(b c d:Int)(e:Bool)(w:World):(Instr.field 70 (Ip #[I a,O J b,O J c,O J d,AT e]) 1).run be w=.ok (O J b) w:=by kernel_rfl
theorem ET(here:ByteArray)(ps pm pw:Option Addr)(ns cs nm cm nw cw:Nat)(px py pz ph pq:Int)(ms:List Mem)(t:ByteArray)(w:World)(hm:Sl w (U pm nm cm) ms)(hn:nm<=1000) :
 Calls be 242 #[Ip (eH here (U ps ns cs) (U pm nm cm) px py pz ph pq (U pw nw cw)),I t] w λe w'=>e=sh (AT (yr ms t))/\Below w.heap.size w w':=by
 have HM:Hid (Sl w (U pm nm cm) ms):=hm;clear hm;have HU:Hid (yr ms t=(decide ((dZ ms t).state=3)||decide ((dZ ms t).state=4))):=rfl;generalize yr ms t=R at *;go_enter Tryz.func242,Tryz.ntmps242;go_wp2_with fail;have eG:Below w.heap.size w (w.alloc (AI (eH here (U ps ns cs) (U pm nm cm) px py pz ph pq (U pw nw cw)) 137)):=(Ia _ _).alloc (By _) _;refine(qi here ps pm pw ns cs nm cm nw cw px py pz ph pq ms t _ (HM.out.below eG) hn).mono ?_;rintro e w1 ⟨rfl,an⟩;have HB:Hid (Below w.heap.size w w1):=eG.trans (an.mono (by simp));clear an eG;generalize dZ ms t=m at *;obtain⟨mn,st,lf,ad,sv⟩:=m;have alh:=ES;by_cases h3:st=3
 .have HR:Hid (R=true):=HU.out.trans (by simp[h3])
  subst h3;go_wp2_with fail;go_ret;exact⟨az HR.out.symm,HB.out⟩
 .have HR:Hid (R=decide (st=4)):=HU.out.trans (by simp[h3])
  have Vc:(st==3)=false:=by simpa using h3
  go_wp2_with fail;go_ret;exact⟨az (by rw[HR.out];rfl),HB.out⟩
end Go.Proofs.YtfidjlcdlakceaaGreatDoor
