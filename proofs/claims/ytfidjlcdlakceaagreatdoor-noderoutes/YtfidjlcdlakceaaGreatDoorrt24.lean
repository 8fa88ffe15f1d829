import Derived.Test.YtfidjlcdlakceaaGreatDoorrt14
import Derived.Test.YtfidjlcdlakceaaGreatDoorrt7
set_option maxHeartbeats 3200000
set_option maxRecDepth 100000
open Go.Value renaming string→I,slice→U,bool→AT,agg→Ip,int→O,tuple→Il
open Option renaming none→Y,some→Z
open ByteArray renaming empty→If,mk→O5
open Go.Ending renaming returned→sh
open Go.Proofs.Tryz renaming prog→be,underlying0→J3,isAgg0→O4,sizeOf0→OL,zeroValue0→Oe,underlying3→Iz,isAgg3→JX,sizeOf3→JI,zeroValue3→JN,underlying4→Jg,isAgg4→Oq,sizeOf4→Od,zeroValue4→JO,underlying111→Jn,isAgg111→QF,sizeOf111→Qw,zeroValue111→O0,isAgg9→J9,sizeOf9→JT,underlying9→Iv
open Nat renaming le_refl→By,le_trans→Ir,le_of_lt→J4
open Go.Obj renaming cells→AI
open Go.RowKit.Below renaming refl→Ia
open List renaming getD→Io,mem_cons_self→JJ,length_append→Ij,mem_append→J1,mem_singleton→Og,length_singleton→JB
open Array renaming getElem?_eq_some_iff→Ib
open Go.Sort renaming ahead→QL
open Go.DataW renaming trod_string→JD
namespace Go.Proofs.YtfidjlcdlakceaaGreatDoor
open Go.RowKit
structure Qu where
 service:ByteArray
 tag:ByteArray
 node:ByteArray
 ai:ByteArray
def Qu.ok(q:Qu):Prop:=q.service.size<=maxLen/\q.tag.size<=maxLen/\q.node.size<=maxLen/\q.ai.size<=maxLen
abbrev ea:ByteArray:=⟨#[115,101,114,118,105,99,101]⟩
abbrev eb:ByteArray:=⟨#[110,111,100,101]⟩
abbrev gf:ByteArray:=⟨#[109,101,115,104]⟩
def pM(x:ByteArray):Bool:=Lib.containsS [ea,eb] x
def hJ(x:ByteArray):Bool:=Lib.containsS [ea,eb,gf] x
def qk(q:Qu):Bool:=pM q.node||hJ q.tag||hJ q.service||hJ q.ai
theorem yC(x:ByteArray)(zs:List ByteArray)(g c:Nat)(w:World)(hn:zs.length<=1000)(hc:∀j,j<zs.length->w.cell? ⟨g,0+j,Y⟩=Z (I (zs.getD j If))) :
 Calls be 114 #[I x,U (Z ⟨g,0,Y⟩) zs.length c] w λe w'=>e=sh (AT (Lib.containsS zs x))/\w'=w:=by
 have HC:Hid (Calls be 115 #[U (Z ⟨g,0,Y⟩) zs.length c,I x] w λe w'=>e=sh (AT (Lib.containsS zs x))/\w'=w):=(show Calls _ _ _ _ _ by
  have h:=Tryz.slices_Contains_string g 0 zs.length c zs x w (By _) (by omega) hc
  rwa [List.take_length] at h)
 clear hc;go_enter Tryz.func114,Tryz.ntmps114;go_wp2_with (go_at_call 115;refine HC.out.mono ?_;rintro e w' ⟨rfl,rfl⟩);go_ret;exact⟨rfl,rfl⟩
theorem ny(W:World){cs:Array Value}{t:TypeId}{g:Nat}(hg:g=W.heap.size):(W.alloc (AI cs t)).heap[g]?=Z (AI cs t (0,0)):=by
 subst hg;exact heap_alloc_new W _
theorem aaw(x:ByteArray)(W:World)(g:Nat)(hg:W.heap[g]?=Z (AI #[I ea,I eb] 9 (0,0))) :
 Calls be 114 #[I x,U (Z ⟨g,0,Y⟩) 2 2] W λe w'=>e=sh (AT (pM x))/\w'=W:=
 yC x [ea,eb] g 2 W (by simp) (λj hj=>by
  rw[af hg]
  match j,hj with
  |0,_=>rfl
  |1,_=>rfl)
theorem Lp(x:ByteArray)(W:World)(g:Nat)(hg:W.heap[g]?=Z (AI #[I ea,I eb,I gf] 9 (0,0))) :
 Calls be 114 #[I x,U (Z ⟨g,0,Y⟩) 3 3] W λe w'=>e=sh (AT (hJ x))/\w'=W:=
 yC x [ea,eb,gf] g 3 W (by simp) (λj hj=>by
  rw[af hg]
  match j,hj with
  |0,_=>rfl
  |1,_=>rfl
  |2,_=>rfl)
theorem yD(q:Qu)(w:World) :
 Calls be 60 #[Ip #[I q.service,I q.tag,I q.node,I q.ai]] w λe w'=>e=sh (AT (qk q))/\Below w.heap.size w w':=by
 obtain⟨sv,tg,nd,ce⟩:=q;have HW:Hid (qk ⟨sv,tg,nd,ce⟩=(pM nd||hJ tg||hJ sv||hJ ce)):=rfl;generalize qk ⟨sv,tg,nd,ce⟩=r at *;have HT:Hid (pM nd=true->r=true):=λh=>by rw[HW.out,h];rfl
 have xI:Hid (pM nd=false->hJ tg=true->r=true):=λh h2=>by rw[HW.out,h,h2];rfl
 have HT3:Hid (pM nd=false->hJ tg=false->hJ sv=true->r=true):=λh h2 h3=>by rw[HW.out,h,h2,h3];rfl
 have HT4:Hid (pM nd=false->hJ tg=false->hJ sv=false->r=hJ ce):=λh h2 h3=>by rw[HW.out,h,h2,h3];rfl
 clear HW;go_enter Tryz.func60,Tryz.ntmps60;go_wp2_with fail;refine(aaw _ _ _ (ny _ (by simp))).mono ?_;rintro e w' ⟨rfl,rfl⟩;rcases h1:pM nd with _|_
 .go_wp2_with fail
  refine(Lp _ _ _ (ny _ (by simp))).mono ?_;rintro e w' ⟨rfl,rfl⟩;rcases h2:hJ tg with _|_
  .go_wp2_with fail
   refine(Lp _ _ _ (ny _ (by simp))).mono ?_;rintro e w' ⟨rfl,rfl⟩;rcases h3:hJ sv with _|_
   .have HR:Hid (r=hJ ce):=HT4.out h1 h2 h3
    go_wp2_with fail;refine(Lp _ _ _ (ny _ (by simp))).mono ?_;rintro e w' ⟨rfl,rfl⟩;go_wp2_with fail;go_ret;refine⟨az HR.out.symm,?_⟩;repeat(first|exact Ia _ _|refine Below.alloc ?_ (by simp<;>omega) _)
   .have HR:Hid (r=true):=HT3.out h1 h2 h3
    go_wp2_with fail;go_ret;refine⟨az HR.out.symm,?_⟩;repeat(first|exact Ia _ _|refine Below.alloc ?_ (by simp<;>omega) _)
  .have HR:Hid (r=true):=xI.out h1 h2
   go_wp2_with fail;go_ret;refine⟨az HR.out.symm,?_⟩;repeat(first|exact Ia _ _|refine Below.alloc ?_ (by simp<;>omega) _)
 .have HR:Hid (r=true):=HT.out h1
  go_wp2_with fail;go_ret;refine⟨az HR.out.symm,?_⟩;repeat(first|exact Ia _ _|refine Below.alloc ?_ (by simp<;>omega) _)
def wP(q:Qu):Bool:=(decide (q.service.size=0)==decide (q.node.size=0))||(decide (q.tag.size≠0)&&decide (q.service.size=0))
def fO(q:Qu):Int:=
 if wP q=true then 1 else if[q.service,q.tag,q.node,q.ai].all eZ=false then 1 else if qk q=true then 7 else 0
theorem PB(q:Qu)(W:World)(g:Nat)(hq:q.ok)(hg:W.heap[g]?=Z (AI #[I q.service,I q.tag,I q.node,I q.ai] 9 (0,0))) :
 Calls be 59 #[U (Z ⟨g,0,Y⟩) 4 4] W λe w'=>e=sh (AT ([q.service,q.tag,q.node,q.ai].all eZ))/\w'=W:=
 pV [q.service,q.tag,q.node,q.ai] g 4 W (λj hj=>by
  rw[af hg]
  match j,hj with
  |0,_=>rfl
  |1,_=>rfl
  |2,_=>rfl
  |3,_=>rfl) (λj=>by
  match j with
  |0=>exact hq.1
  |1=>exact hq.2.1
  |2=>exact hq.2.2.1
  |3=>exact hq.2.2.2
  |_+4=>simp[Io]) (by simp)
theorem Bl(q:Qu)(w:World)(hq:q.ok) :
 Calls be 23 #[Ip #[I q.service,I q.tag,I q.node,I q.ai]] w λe w'=>e=sh (O .i64 (fO q))/\Below w.heap.size w w':=by
 have HLB:Hid (∀g W,W.heap[g]?=Z (AI #[I q.service,I q.tag,I q.node,I q.ai] 9 (0,0))->Calls be 59 #[U (Z ⟨g,0,Y⟩) 4 4] W λe w'=>e=sh (AT ([q.service,q.tag,q.node,q.ai].all eZ))/\w'=W):=λg W h=>PB q W g hq h;have HWD:Hid (∀W,Calls be 60 #[Ip #[I q.service,I q.tag,I q.node,I q.ai]] W λe w'=>e=sh (AT (qk q))/\Below W.heap.size W w'):=λW=>yD q W;have kA:Hid (wP q=true->fO q=1):=λh=>by unfold fO;rw[if_pos h]
 have j8:Hid (wP q=false->[q.service,q.tag,q.node,q.ai].all eZ=false->fO q=1):=λh h2=>by unfold fO;rw[if_neg (by rw[h];simp),if_pos h2]
 have rG:Hid (wP q=false->[q.service,q.tag,q.node,q.ai].all eZ=true->fO q=if qk q=true then 7 else 0):=λh h2=>by unfold fO;rw[if_neg (by rw[h];simp),if_neg (by rw[h2];simp)]
 have HF:Hid (wP q=((decide (q.service.size=0)==decide (q.node.size=0))||(decide (q.tag.size≠0)&&decide (q.service.size=0)))):=rfl;generalize[q.service,q.tag,q.node,q.ai].all eZ=lb at *;generalize qk q=wb at *;generalize fO q=r at *;generalize wP q=fr at *;obtain⟨sv,tg,nd,ce⟩:=q;simp only at HLB HWD HF ⊢;clear hq;by_cases hs:sv.size=0<;>by_cases hn:nd.size=0<;>by_cases ht:tg.size=0;all_goals
  have qV:=HF.out;simp only[hs,hn,ht,decide_true,decide_false,Bool.or_false,Bool.or_true,beq_self_eq_true,ne_eq,not_true_eq_false,not_false_eq_true,Bool.and_true,Bool.and_false] at qV;clear HF;first|(have es:=cx hs;subst es)|(obtain⟨s1,s2⟩:=gr hs)
  first|(have en:=cx hn;subst en)|(obtain⟨n1,n2⟩:=gr hn)
  first|(have et:=cx ht;subst et)|(obtain⟨t1,t2⟩:=gr ht)
  clear hs hn ht;go_enter Tryz.func23,Tryz.ntmps23;go_wp2_with fail
 all_goals first
  |(go_ret
    exact⟨aj (kA.out qV).symm,(Ia _ _).alloc (By _) _⟩)
  |(have xv:Hid (fr=false):=(show fr=false from qV)
    clear qV;refine(HLB.out _ _ (ny _ (by simp))).mono ?_;rintro e w' ⟨rfl,rfl⟩;rcases hl:lb with _|_
    .have HR:Hid (r=1):=j8.out xv.out hl
     go_wp2_with fail;go_ret;exact⟨aj HR.out.symm,((Ia _ _).alloc (By _) _).alloc (by simp) _⟩
    .have HR:Hid (r=if wb=true then 7 else 0):=rG.out xv.out hl
     go_wp2_with fail;refine(HWD.out _).mono ?_;rintro e w1 ⟨rfl,an⟩;have aD:=an.size;simp at aD;rcases hw:wb with _|_
     .rw[hw] at HR
      go_wp2_with fail;go_ret;exact⟨aj HR.out.symm,(((Ia _ _).alloc (By _) _).alloc (by simp) _).trans (an.mono (by simp;omega))⟩
     .rw[hw] at HR
      go_wp2_with fail;go_ret;exact⟨aj HR.out.symm,(((Ia _ _).alloc (By _) _).alloc (by simp) _).trans (an.mono (by simp;omega))⟩)
theorem Lq(x:ByteArray):pM x=true↔x=ea\/x=eb:=by
 unfold pM;rw[Lib.containsS_iff];simp
theorem Lr(x:ByteArray):hJ x=true↔x=ea\/x=eb\/x=gf:=by
 unfold hJ;rw[Lib.containsS_iff];simp
theorem Bm{s:ByteArray}(l:List UInt8)(h:s≠mk l):(s.toList==l)=false/\¬ s.toList=l:=by
 have h2:¬ s.toList=l:=λe=>h (by rw[<- e,Lib.toList_data,mk_data]);exact⟨by simpa using h2,h2⟩
abbrev oh:List UInt8:=[115,101,114,118,105,99,101]
abbrev oi:List UInt8:=[110,111,100,101]
abbrev ic:List UInt8:=[109,101,115,104]
theorem PC{s:ByteArray}(h:s≠ea):(s.toList==[115,101,114,118,105,99,101])=false/\¬ s.toList=[115,101,114,118,105,99,101]:=Bm oh h
theorem CL{s:ByteArray}(h:s≠eb):(s.toList==[110,111,100,101])=false/\¬ s.toList=[110,111,100,101]:=Bm oi h
theorem PD{s:ByteArray}(h:s≠gf):(s.toList==[109,101,115,104])=false/\¬ s.toList=[109,101,115,104]:=Bm ic h
def bytes(s:ByteArray):List UInt8:=s.data.toList
def opt(s:ByteArray):List (List UInt8):=if s.size=0 then[] else[bytes s]
def sP(q:Qu):List (List UInt8):=
 if q.node.size=0 then opt q.tag++(opt q.service++([oh]++(opt q.ai++[ic]))) else opt q.node++([oi]++(opt q.ai++[ic]))
def prt(q:Qu):ByteArray:=mk (jn (sP q))
def iY(q:Qu):Int:=if fO q=0 then bQ (prt q) else fO q
def kK(q:Qu):ByteArray:=if iY q=0 then prt q else⟨#[]⟩
theorem gQ{s:ByteArray}(h:s.size≠0):opt s=[bytes s]:=if_neg h
theorem lG{s:ByteArray}(h:s.size=0):opt s=[]:=if_pos h
theorem jN{q:Qu}(h:fO q=0):wP q=false/\eZ q.service=true/\eZ q.tag=true/\eZ q.node=true/\eZ q.ai=true/\qk q=false:=by
 unfold fO at h;split at h
 .omega
 .rename_i h1
  split at h
  .omega
  .rename_i h2
   split at h
   .omega
   .rename_i h3
    have vB:[q.service,q.tag,q.node,q.ai].all eZ=true:=by simpa using h2
    simp only[List.all_cons,List.all_nil,Bool.and_true,Bool.and_eq_true] at vB;exact⟨by simpa using h1,vB.1,vB.2.1,vB.2.2.1,vB.2.2.2,by simpa using h3⟩
theorem eU{s:ByteArray}(h:eZ s=true):s.size<=30:=by
 unfold eZ at h;simp only[Bool.or_eq_true,decide_eq_true_eq] at h;rcases h with rfl|h
 .decide
 .unfold aA at h
  simp only[Bool.and_eq_true,decide_eq_true_eq] at h;exact h.1.2
theorem yE{w w1:World}{a b c d:Value}{t:TypeId}(h:Below (w.alloc (AI #[a,b,c,d] t)).heap.size (w.alloc (AI #[a,b,c,d] t)) w1) :
 w1.cell? ⟨w.heap.size,0,Y⟩=Z a/\w1.cell? ⟨w.heap.size,1,Y⟩=Z b/\w1.cell? ⟨w.heap.size,2,Y⟩=Z c/\w1.cell? ⟨w.heap.size,3,Y⟩=Z d/\Hid (Below w.heap.size w w1)/\w.heap.size<w1.heap.size:=by
 have hg:w1.heap[w.heap.size]?=Z (AI #[a,b,c,d] t (0,0)):=(h.block _ (by simp)).trans (heap_alloc_new w _);exact⟨af hg 0,af hg 1,af hg 2,af hg 3,((Ia _ _).alloc (By _) _).trans (h.mono (by simp)),(Ib.1 hg).1⟩
theorem rO{a b:ByteArray}{x y:Int}(h1:a=b)(h2:x=y):Ending.returned (Il #[I a,O .i64 x])=sh (Il #[I b,O .i64 y]):=by rw[h1,h2]
theorem CM{E:Int}{T S:ByteArray}(h:S=if E=0 then T else⟨#[]⟩)(h0:E=0):S=T:=by rw[h,if_pos h0]
end Go.Proofs.YtfidjlcdlakceaaGreatDoor
namespace Go.Proofs
open Go.Shelf
def Tryz.yF:Go.Shelf.Ren:=⟨fun|10=>63|6=>113|n=>n,fun|22=>111|23=>9|25=>86|3=>3|4=>4|0=>0|n=>n,fun|n=>n⟩
theorem Tryz.afI:Go.Proofs.SlLaysH.n10 be Tryz.yF:={
 mixed:=by kernel_rfl
 f6:=⟨Tryz.f113.name,by decide,Tryz.func113.trans (congrArg Z (by kernel_rfl))⟩
 f10:=⟨Tryz.f63.name,by decide,Tryz.func63.trans (congrArg Z (by kernel_rfl))⟩
 t0:=J3
 a0:=O4
 z0:=OL
 v0:=Oe
 t3:=Iz
 a3:=JX
 z3:=JI
 v3:=JN
 t4:=Jg
 a4:=Oq
 z4:=Od
 v4:=JO
 t22:=Jn
 a22:=QF
 z22:=Qw
 v22:=O0
 a23:=J9
 z23:=JT
 t25:=Tryz.underlying86
 a25:=Tryz.isAgg86
 z25:=Tryz.sizeOf86
 v25:=Tryz.zeroValue86 }
def Tryz.CN:Go.Shelf.Ren:=⟨fun|6=>113|n=>n,fun|22=>111|23=>9|25=>86|3=>3|0=>0|4=>4|n=>n,fun|n=>n⟩
theorem Tryz.ixS:Go.Proofs.SlLaysH.n6 be Tryz.CN:={
 mixed:=by kernel_rfl
 f6:=⟨Tryz.f113.name,by decide,Tryz.func113.trans (congrArg Z (by kernel_rfl))⟩
 t0:=J3
 a0:=O4
 z0:=OL
 v0:=Oe
 t3:=Iz
 a3:=JX
 z3:=JI
 v3:=JN
 t4:=Jg
 a4:=Oq
 z4:=Od
 v4:=JO
 t22:=Jn
 a22:=QF
 z22:=Qw
 v22:=O0
 a23:=J9
 z23:=JT
 t25:=Tryz.underlying86
 a25:=Tryz.isAgg86
 z25:=Tryz.sizeOf86
 v25:=Tryz.zeroValue86 }
end Go.Proofs
namespace Go.Proofs.YtfidjlcdlakceaaGreatDoor
open Go.RowKit Go.Shelf Go.Lib Go.Sort
theorem ql(x:ByteArray)(W:World):FnGives be 61 #[] #[I x] (AT (decide (x.size=0))) W:=by
 show Calls be 61 #[I x] W _;by_cases h:x.size=0
 .have e:=cx h
  subst e;go_enter Tryz.func61,Tryz.ntmps61;go_wp2_with fail;go_ret;exact⟨rfl,0,rfl⟩
 .obtain⟨n1,n2⟩:=gr h
  rw[show decide (x.size=0)=false by simpa using h];clear h;go_enter Tryz.func61,Tryz.ntmps61;go_wp2_with fail;go_ret;exact⟨rfl,0,rfl⟩
theorem aax:∀w,(zeroValue 9).run be w=.ok (I (⟨#[]⟩:ByteArray)) w:=Tryz.zeroValue9
theorem Fc{α:Type}[Inhabited α](enc:α->Value)(w:World)(q PF off g:Nat)(d:Array α)(bE:g≠PF):(putRow enc (QL w q) PF off d).heap[g]?=w.heap[g]?:=by
 show(w.heap.modify PF _)[g]?=_;rw[Array.getElem?_modify,if_neg (Ne.symm bE)]
theorem Fe{α:Type}[Inhabited α](enc:α->Value)(w:World)(q PF off B:Nat)(d:Array α)(hB:B<=PF):Below B w (putRow enc (QL w q) PF off d):=
 ⟨rfl,rfl,rfl,by simp[QL],λk hk=>Fc enc w q PF off k d (by omega)⟩
theorem oj:∀(xs:List (List UInt8)),Lib.join xs [46]=jn xs
 |[]=>rfl
 |[x]=>by simp[Lib.join,jn]
 |x::y::r=>by
  have ih:=oj (y::r);simp[Lib.join,jn] at ih ⊢;first|exact ih|simp[ih]
theorem vD(xs:List ByteArray)(w:World)(g:Nat)(hg:w.heap[g]?=Z (AI (xs.map I).toArray 9 (0,0)))(hn:xs.length<=10)(hz:(jn ((xs.filter λx => !decide (x.size=0)).map bytes)).length<=1000) :
 Calls be 24 #[U (Z ⟨g,0,Y⟩) xs.length xs.length] w λe w'=>e=sh (I (mk (jn ((xs.filter λx => !decide (x.size=0)).map bytes))))/\Below g w w':=by
 have eg:∀args w,(callFunc 61 args).run be w=.ok (.enter 61 args) w:=enters_of Tryz.func61 (by kernel_rfl) rfl;have aB:g<w.heap.size:=(Ib.1 hg).1;have hH:Holds I w g 0 xs.toArray:=λj hj=>by
  have ua:j<xs.length:=by simpa using hj
  refine⟨?_,?_⟩
  .rw[Nat.zero_add,af hg]
   simp[ua]
  .simp[World.frozen?,hg]
 have mC:=AnyE.slices_DeleteFunc (P:=be) (ρ:=Tryz.yF) Tryz.afI I (λ_=>rfl) (λx:ByteArray=>decide (x.size=0)) 61 #[] eg ⟨#[]⟩ aax g 0 xs.length xs.toArray w (λW x _=>ql x W) (λn os dk x _=>ql x _) hH (by simp;omega) (by simp);change Calls be 63 _ _ _ at mC;simp only[List.size_toArray] at mC;have Es:Hid ((xs.filter λx => !decide (x.size=0)).length<=xs.length):=List.length_filter_le _ _;generalize hF:(xs.filter λx => !decide (x.size=0))=F at *;have HCE:Hid (∀q j,j<F.length->(putRow I (QL w q) g 0 (F++List.replicate (xs.length-F.length) (⟨#[]⟩:ByteArray)).toArray).cell? ⟨g,0+j,Y⟩=Z (I (F.getD j If))):=λq j hj=>by
  have bb:((F++List.replicate (xs.length-F.length) (⟨#[]⟩:ByteArray)).toArray).size=xs.toArray.size:=by simp;have:=Es.out;omega
  have h:=cell?_putRow I (QL w q) g 0 xs.toArray _ (λj hj=>hH j hj) bb j (by rw[bb];simp;have:=Es.out;omega);rw[h];simp[Io,hj,List.getElem?_append_left hj]
 have HBP:Hid (∀q,Below g w (putRow I (QL w q) g 0 (F++List.replicate (xs.length-F.length) (⟨#[]⟩:ByteArray)).toArray)):=λq=>Fe _ _ _ _ _ _ _ (By _);have afJ:Hid (Calls be 63 #[U (Z ⟨g,0,Y⟩) xs.length xs.length,.func (.func 61) #[] #[]] w λe w'=>e=sh (U (Z ⟨g,0,Y⟩) F.length xs.length)/\Hid (∀j,j<F.length->w'.cell? ⟨g,0+j,Y⟩=Z (I (F.getD j If)))/\Hid (Below g w w')/\g<w'.heap.size):=(show Calls _ _ _ _ _ by
  refine mC.mono ?_;rintro e w' ⟨rfl,q,rfl⟩;exact⟨rfl,HCE.out q,HBP.out q,by rw[size_putRow];exact aB⟩)
 have HJ:Hid (∀W,(∀j,j<F.length->W.cell? ⟨g,0+j,Y⟩=Z (I (F.getD j If)))->g<W.heap.size->Calls be 62 #[U (Z ⟨g,0,Y⟩) F.length xs.length,I ⟨#[46]⟩] W λe w'=>e=sh (I (mk (jn (F.map bytes))))/\Below W.heap.size W w'):=λW h1 h2=>by
  have h3:=Tryz.strings_Join g 0 xs.length F ⟨#[46]⟩ W (λj x hj=>by
   obtain⟨M6,ua⟩:=List.getElem?_eq_some_iff.1 hj;rw[h1 j M6];simp[Io,M6,ua]) h2 (by have:=Es.out;omega) Es.out (by
   rw[show(O5 #[46]).data.toList=[46] from rfl,oj];exact Ir hz (by omega))
  rw[show(O5 #[46]).data.toList=[46] from rfl,oj] at h3;exact h3
 clear mC HCE HBP hg hH hz eg;generalize mk (jn (F.map bytes))=R at *;generalize F.length=fl at *;generalize xs.length=n at *;go_enter Tryz.func24,Tryz.ntmps24;go_wp2_with (first|(go_at_call 63;refine afJ.out.mono ?_;rintro e w1 ⟨rfl,CO,aK,dX⟩)|(go_at_call 62;refine(HJ.out _ CO.out dX).mono ?_;rintro e w2 ⟨rfl,aD⟩));go_ret;exact⟨rfl,aK.out.trans (aD.mono (J4 dX))⟩
end Go.Proofs.YtfidjlcdlakceaaGreatDoor
namespace Go.Proofs.YtfidjlcdlakceaaGreatDoor
open Go.RowKit
theorem CP:∀(xs:List (List UInt8)),(∀x∈xs,x.length<=30)->(jn xs).length<=31*xs.length
 |[],_=>by simp[jn]
 |[x],h=>by have:=h x JJ;simp[jn];omega
 |x::y::r,h=>by
  have h1:=h x JJ;have h2:=CP (y::r) (λz hz=>h z (List.mem_cons_of_mem _ hz));show(x++46::jn (y::r)).length<=_;simp only[Ij,List.length_cons] at h2 ⊢;omega
theorem fP(s:ByteArray)(r:List ByteArray):(((s::r).filter λx => !decide (x.size=0)).map bytes)=opt s++(r.filter λx => !decide (x.size=0)).map bytes:=by
 by_cases h:s.size=0
 .rw[lG h,List.filter_cons_of_neg (by simp[h])];rfl
 .rw[gQ h,List.filter_cons_of_pos (by simp[h])];rfl
theorem aay(sv tg ce:ByteArray):(([tg,sv,ea,ce,gf].filter λx => !decide (x.size=0)).map bytes)=opt tg++(opt sv++([oh]++(opt ce++[ic]))):=by
 rw[fP,fP,fP,fP,fP];rfl
theorem aaz(nd ce:ByteArray):(([nd,eb,ce,gf].filter λx => !decide (x.size=0)).map bytes)=opt nd++([oi]++(opt ce++[ic])):=by
 rw[fP,fP,fP,fP];rfl
theorem sQ{s:ByteArray}(h:s.size<=30):∀x∈opt s,x.length<=30:=λx hx=>by
 unfold opt at hx;split at hx
 .cases hx
 .simp at hx;subst hx;simpa[bytes] using h
theorem om(s:ByteArray):(opt s).length<=1:=by unfold opt;split<;>simp
theorem aaA{sv tg ce:ByteArray}(h1:sv.size<=30)(h2:tg.size<=30)(h3:ce.size<=30):(jn (opt tg++(opt sv++([oh]++(opt ce++[ic]))))).length<=155:=by
 refine Ir (CP _ λx hx=>?_) ?_
 .simp only[J1,Og] at hx
  rcases hx with h|h|h|h|h
  .exact sQ h2 x h
  .exact sQ h1 x h
  .subst h;decide
  .exact sQ h3 x h
  .subst h;decide
 .have a:=om tg;have b:=om sv;have c:=om ce
  simp only[Ij,JB];omega
theorem aaB{nd ce:ByteArray}(h1:nd.size<=30)(h3:ce.size<=30):(jn (opt nd++([oi]++(opt ce++[ic])))).length<=155:=by
 refine Ir (CP _ λx hx=>?_) ?_
 .simp only[J1,Og] at hx
  rcases hx with h|h|h|h
  .exact sQ h1 x h
  .subst h;decide
  .exact sQ h3 x h
  .subst h;decide
 .have a:=om nd;have c:=om ce
  simp only[Ij,JB];omega
theorem aaC(sv tg ce:ByteArray)(W:World)(g:Nat)(hg:W.heap[g]?=Z (AI #[I tg,I sv,I ea,I ce,I gf] 9 (0,0)))(h1:sv.size<=30)(h2:tg.size<=30)(h3:ce.size<=30) :
 Calls be 24 #[U (Z ⟨g,0,Y⟩) 5 5] W λe w'=>e=sh (I (mk (jn (opt tg++(opt sv++([oh]++(opt ce++[ic])))))))/\Below g W w':=by
 have h:=vD [tg,sv,ea,ce,gf] W g hg (by simp) (by rw[aay];exact Ir (aaA h1 h2 h3) (by omega));rw[aay] at h;exact h
theorem aaD(nd ce:ByteArray)(W:World)(g:Nat)(hg:W.heap[g]?=Z (AI #[I nd,I eb,I ce,I gf] 9 (0,0)))(h1:nd.size<=30)(h3:ce.size<=30) :
 Calls be 24 #[U (Z ⟨g,0,Y⟩) 4 4] W λe w'=>e=sh (I (mk (jn (opt nd++([oi]++(opt ce++[ic]))))))/\Below g W w':=by
 have h:=vD [nd,eb,ce,gf] W g hg (by simp) (by rw[aaz];exact Ir (aaB h1 h3) (by omega));rw[aaz] at h;exact h
theorem Ls{q:Qu}(h:fO q=0):(prt q).size<=155:=by
 obtain⟨_,z1,z2,z3,z4,_⟩:=jN h;unfold prt sP;rw[gB];split
 .exact aaA (eU z1) (eU z2) (eU z4)
 .exact aaB (eU z3) (eU z4)
theorem mq(q:Qu)(w:World)(hq:q.ok) :
 Calls be 8 #[Ip #[I q.service,I q.tag,I q.node,I q.ai]] w λe w'=>e=sh (Il #[I (kK q),O .i64 (iY q)])/\Below w.heap.size w w':=by
 have HCQ:Hid (∀W,Calls be 23 #[Ip #[I q.service,I q.tag,I q.node,I q.ai]] W λe w'=>e=sh (O .i64 (fO q))/\Below W.heap.size W w'):=λW=>Bl q W hq;by_cases h0:fO q=0
 .obtain⟨_,z1,z2,z3,z4,_⟩:=jN h0
  have y1:=eU z1;have y2:=eU z2;have y3:=eU z3;have y4:=eU z4;have Xy:=Ls h0;have HJ5:Hid (∀(W:World) (g:Nat),W.heap[g]?=Z (AI #[I q.tag,I q.service,I ea,I q.ai,I gf] 9 (0,0))->Calls be 24 #[U (Z ⟨g,0,Y⟩) 5 5] W λe w'=>e=sh (I (mk (jn (opt q.tag++(opt q.service++([oh]++(opt q.ai++[ic])))))))/\Below g W w'):=λW g h=>aaC _ _ _ W g h y1 y2 y4;have HJ4:Hid (∀(W:World) (g:Nat),W.heap[g]?=Z (AI #[I q.node,I eb,I q.ai,I gf] 9 (0,0))->Calls be 24 #[U (Z ⟨g,0,Y⟩) 4 4] W λe w'=>e=sh (I (mk (jn (opt q.node++([oi]++(opt q.ai++[ic]))))))/\Below g W w'):=λW g h=>aaD _ _ W g h y3 y4;have M9:Hid (∀W,Calls be 25 #[I (prt q)] W λe w'=>e=sh (O .i64 (bQ (prt q)))/\Below W.heap.size W w'):=λW=>il _ W (by unfold maxLen;omega);have HE:Hid (iY q=bQ (prt q)):=if_pos h0;have HS:Hid (kK q=if iY q=0 then prt q else⟨#[]⟩):=rfl;have HP:Hid (prt q=if q.node.size=0 then mk (jn (opt q.tag++(opt q.service++([oh]++(opt q.ai++[ic]))))) else mk (jn (opt q.node++([oi]++(opt q.ai++[ic]))))):=(show prt q=_ by unfold prt sP;split<;>rfl);rw[h0] at HCQ;generalize mk (jn (opt q.tag++(opt q.service++([oh]++(opt q.ai++[ic])))))=N5 at *;generalize mk (jn (opt q.node++([oi]++(opt q.ai++[ic]))))=N4 at *;generalize kK q=S at *;generalize hce:bQ (prt q)=ce' at *;generalize prt q=T at *;generalize iY q=E at *;clear h0 hq hce z1 z2 z3 z4 y1 y2 y3 y4 Xy;obtain⟨sv,tg,nd,ce⟩:=q;simp only at HCQ HJ5 HJ4 HP ⊢;go_enter Tryz.func8,Tryz.ntmps8;go_wp2_with fail;refine(HCQ.out _).mono ?_;rintro e w1 ⟨rfl,an⟩;obtain⟨f0,f1,f2,f3,aK,dX⟩:=yE an;clear an;go_wp2_with fail;refine(HJ5.out _ _ (ny _ rfl)).mono ?_;rintro e w2 ⟨rfl,aD⟩;have bD:Hid (Below w1.heap.size w1 w2):=((Ia _ _).alloc (By _) _).trans aD;have g0:=(bD.out.cell (p:=⟨w.heap.size,0,Y⟩) dX).trans f0;have g1:=(bD.out.cell (p:=⟨w.heap.size,1,Y⟩) dX).trans f1;have g2:=(bD.out.cell (p:=⟨w.heap.size,2,Y⟩) dX).trans f2;have g3:=(bD.out.cell (p:=⟨w.heap.size,3,Y⟩) dX).trans f3;have dK:w1.heap.size<=w2.heap.size:=bD.out.size;clear f0 f1 f2 f3 aD;by_cases hn:nd.size=0
  .have HT:N5=T:=by rw[HP.out,if_pos hn]
   subst HT;have en:=cx hn;subst en;clear hn HP;go_wp2_with fail;refine(M9.out _).mono ?_;rintro e w4 ⟨rfl,e9⟩;have VE:Hid (Below w.heap.size w w4):=(aK.out.trans (bD.out.mono (J4 dX))).trans (e9.mono (by omega));clear e9;by_cases hz:ce'=0
   .have xN:Hid (S=N5):=CM HS.out (by rw[HE.out];exact hz)
    subst hz;go_wp2_with fail;go_ret2;exact⟨rO xN.out.symm HE.out.symm,VE.out⟩
   .have xN:Hid (S=⟨#[]⟩):=(show S=⟨#[]⟩ by rw[HS.out,if_neg (by rw[HE.out];exact hz)])
    have jD:(ce'==0)=false:=by simpa using hz
    go_wp2_with fail;go_ret2;exact⟨rO xN.out.symm HE.out.symm,VE.out⟩
  .have HT:N4=T:=by rw[HP.out,if_neg hn]
   subst HT;obtain⟨n1,n2⟩:=gr hn;clear hn HP;go_wp2_with fail;refine(HJ4.out _ _ (ny _ rfl)).mono ?_;rintro e w3 ⟨rfl,bn⟩;have cT:Hid (Below w2.heap.size w2 w3):=((Ia _ _).alloc (By _) _).trans bn;have uT:w2.heap.size<=w3.heap.size:=cT.out.size;clear bn;go_wp2_with fail;refine(M9.out _).mono ?_;rintro e w4 ⟨rfl,e9⟩;have VE:Hid (Below w.heap.size w w4):=((aK.out.trans (bD.out.mono (J4 dX))).trans (cT.out.mono (by omega))).trans (e9.mono (by omega));clear e9;by_cases hz:ce'=0
   .have xN:Hid (S=N4):=CM HS.out (by rw[HE.out];exact hz)
    subst hz;go_wp2_with fail;go_ret2;exact⟨rO xN.out.symm HE.out.symm,VE.out⟩
   .have xN:Hid (S=⟨#[]⟩):=(show S=⟨#[]⟩ by rw[HS.out,if_neg (by rw[HE.out];exact hz)])
    have jD:(ce'==0)=false:=by simpa using hz
    go_wp2_with fail;go_ret2;exact⟨rO xN.out.symm HE.out.symm,VE.out⟩
 .have HE:Hid (iY q=fO q):=if_neg h0
  have HS:Hid (kK q=⟨#[]⟩):=if_neg (by rw[HE.out];exact h0);rw[HE.out,HS.out];have h1:(fO q==0)=false:=by simpa using h0
  clear HE HS;generalize fO q=r at *;go_enter Tryz.func8,Tryz.ntmps8;go_wp2_with (go_at_call 23;refine(HCQ.out _).mono ?_;rintro e w1 ⟨rfl,an⟩);go_ret2;exact⟨rfl,((Ia _ _).alloc (By _) _).trans (an.mono (by simp))⟩
end Go.Proofs.YtfidjlcdlakceaaGreatDoor
namespace Go.Proofs.YtfidjlcdlakceaaGreatDoor
open Go.ChangeShapes Go.WideShapes Go.ChangeAt Go.RowKit
section
variable {H:Type} {enc:TypeId × Value→H} {w:World} {base:Nat} {spare:Nat→Bool} {held:Bool}
theorem Tryz.kcQ:Tryz.prog.cellsOf 32=4:=by kernel_rfl
theorem yG{fuel:Nat}{cs:List Value}{x:DataW H×List MemPlace}(h:DataW.trod enc be w base spare held fuel 32 cs=Z x) :
 ∃q:Qu,cs=[I q.service,I q.tag,I q.node,I q.ai]/\q.ok:=by
 obtain⟨xs,n,_,_,hl,hlen,hf⟩:=DataW.trod_struct Tryz.underlying32 h;rw[Tryz.kcQ] at hl
 match cs,hl with
 |[c0,c1,c2,c3],_=>
  match xs,hlen with
  |[y0,y1,y2,y3],_=>
   have h0:=hf 0 _ rfl;have h1:=hf 1 _ rfl;have h2:=hf 2 _ rfl;have h3:=hf 3 _ rfl;simp[Tryz.Ag] at h0;simp[Tryz.Ag] at h1;simp[Tryz.Ag] at h2;simp[Tryz.Ag] at h3;obtain⟨a,e0,_,w0⟩:=JD Iv h0;obtain⟨b,e1,_,w1⟩:=JD Iv h1;obtain⟨c,e2,_,w2⟩:=JD Iv h2;obtain⟨d,e3,_,w3⟩:=JD Iv h3;simp only[List.cons.injEq,and_true] at e0 e1 e2 e3;subst e0 e1 e2 e3;exact⟨⟨a,b,c,d⟩,rfl,w0,w1,w2,w3⟩
theorem xy{r:Reach}{b0:Nat}{v:Value}{d:DataW H}{p:List MemPlace}(hv:Value.okWide be w r b0 32 v)(h:DataW.Trod enc be w base spare held 32 v d p) :
 ∃q:Qu,v=Ip #[I q.service,I q.tag,I q.node,I q.ai]/\q.ok:=by
 obtain⟨cs,rfl,bb⟩:=okWide_struct Tryz.underlying32 hv;obtain⟨fuel,hf⟩:=h;obtain⟨q,hm,hs⟩:=yG hf;refine⟨q,?_,hs⟩;simp only[Value.cells] at hm;congr 1;apply Array.ext';exact hm
end
end Go.Proofs.YtfidjlcdlakceaaGreatDoor
