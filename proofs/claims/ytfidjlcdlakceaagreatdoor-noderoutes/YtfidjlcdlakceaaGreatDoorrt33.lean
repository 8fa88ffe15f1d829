import Derived.Test.YtfidjlcdlakceaaGreatDoorrt30
import Derived.Test.YtfidjlcdlakceaaGreatDoorrt31
import Derived.Test.YtfidjlcdlakceaaGreatDoorrt32
set_option maxHeartbeats 12800000
set_option maxRecDepth 100000
open Option renaming some→Z,none→Y
open Go.Value renaming string→I,int→O,slice→U,bool→AT,tuple→Il,agg→Ip
open Go.Ending renaming returned→sh
open Go.IntKind renaming i64→J,wrap_i64→IN
open Nat renaming zero_le→IF,not_lt_zero→IP,zero_add→I3,le_trans→Ir,le_refl→By,lt_of_lt_of_le→Iu,le_of_lt→J4
open List renaming mem_cons→Jr,getD→Io,length_drop→Jl,take_of_length_le→IW,length_take→IA,length_map→Ov,mem_map→Oo,getElem?_eq_getElem→Ic,getElem_mem→IQ,mem_singleton→Og,mem_append→J1,nil_append→Qo,cons_append→OM,map_cons→Qv,map_nil→QV
open Go.Proofs.Tryz renaming prog→be
open ByteArray renaming empty→If,mk→O5
open Go.Lib renaming idxByFrom→OQ
open Go.Obj renaming cells→AI
open Go renaming heap_alloc_new→Ie,bodyPost_ret→Iy,maxLen→Ii,redrawn→Ix,cell_regrown→Iq
open Go.World renaming frozen?→Ih
open Go.RowKit.Below renaming refl→Ia,heap_alloc→It,heap_setCell→IH
open Go.Sort renaming grow→Im
namespace Go.Proofs.YtfidjlcdlakceaaGreatDoor
open Go.RowKit
def AtF(ms:List Mem)(t:ByteArray)(r:Int):Prop:=(∃k:Nat,k<ms.length/\r=k/\cM ms t=Z (ms.getD k dm))\/(r = -1/\cM ms t=Y)
theorem FH(ms:List Mem)(v:Value)(t:ByteArray)(w:World)(hv:Sl w v ms)(hn:ms.length<=1000) :
 aT 40 #[v,I t] w λe w'=>∃r:Int,e=sh (O J r)/\Hid (AtF ms t r)/\w'=w:=by
 obtain⟨pa,ca,rfl,_,ha⟩:=hv;have HA:Hid _:=ha;clear ha;generalize qK:ms.length=n at *;have HN:Hid _:=qK;clear qK;go_enter Tryz.func40,Tryz.ntmps40;go_wp2_with fail;go_loop [5] (λi=>∃k:Nat,k<=n/\i=O J k/\Hid (∀j,j<k->(ms.getD j dm).name≠t)) (λi=>n-(intOf i).toNat)
 case atStart=>exact⟨0,IF _,rfl,λj h=>absurd h (IP _)⟩
 case round=>
  obtain⟨k,hk,rfl,hz⟩:=hrel;by_cases aB:k<n
  .obtain⟨b1,o1,hZ,dX,kF⟩:∃b off,pa=Z ⟨b,off,Y⟩/\b<w.heap.size/\Row w b off ms:=by
    rcases HA.out with h|h
    .have:=HN.out;rw[h] at this;simp at this;omega
    .exact h
   subst hZ;obtain⟨c0,_,_,_,_⟩:=kF k (by rw[HN.out];exact aB);clear kF;have HF:Hid ((ms.getD k dm).name=t->AtF ms t (k:Int)):=λh=>.inl ⟨k,by rw[HN.out];exact aB,rfl,mi (by rw[HN.out];exact aB) hz.out h⟩;have HZ:Hid ((ms.getD k dm).name≠t->∀j,j<k+1->(ms.getD j dm).name≠t):=λh j hj=>by
    rcases Nat.lt_succ_iff_lt_or_eq.1 hj with h2|rfl
    .exact hz.out j h2
    .exact h
   generalize(ms.getD k dm).name=nm at *;by_cases he:nm=t
   .subst he
    have qV:Hid (AtF _ _ _):=HF.out rfl;clear HF HZ;go_wp2_with fail;go_ret;exact⟨k,rfl,qV,rfl⟩
   .obtain⟨h1,h2⟩:=eJ he
    have HE:Hid _:=he;clear he;go_wp2_with fail;go_round
    case rel=>exact⟨k+1,by omega,by go_num,HZ.out HE.out⟩
    case measure=>simp[intOf];omega
  .go_wp2_with fail
   go_ret;exact⟨-1,rfl,.inr ⟨rfl,mh λj hj=>hz.out j (by have:=HN.out;omega)⟩,rfl⟩
theorem qu:∀{ms:List Mem},aQ ms=0->∀m∈ms,m.e=0
 |[],_,m,hm=>by simp at hm
 |x::r,h,m,hm=>by
  rw[aQ] at h;by_cases h2:x.e=0
  .rw[if_pos h2] at h
   rcases Jr.1 hm with rfl|hm
   .exact h2
   .exact qu h m hm
  .rw[if_neg h2] at h;exact absurd h h2
theorem qv{B:Nat}{w:World}{v:Value}{ms:List Rc.Rec}(h:Rc.Own B w v ms):∃p c,v=U p ms.length c:=by
 rcases h.2 with⟨hv,h0⟩|⟨g,c,cur,hv,_⟩
 .exact⟨Y,0,by rw[hv,h0]⟩
 .exact⟨_,c,hv⟩
def MsV(w:World)(m:Option Ms)(x:Array Value):Prop:=match m with
 |none=>x=aJ
 |some M=>∃v,Rc.Sl w v M.rs/\M.rs.length<=1000/\x=#[O J M.id,AT M.ay,AT M.cut,O J M.code,I M.R,O J M.al,v]
def zi(t:ByteArray):Option Ms:=if t.size<=512/\qo t=0 then pA t else Y
def FI(t:ByteArray):Int:=if t.size<=512 then(if qo t=0 then 0 else 1) else 2
theorem V5{t:ByteArray}{w:World}{e:Ending}{w':World}(h:RdP t w e w'):∃i a c o r y p l k,e=sh (Il #[Ip #[O J i,AT a,AT c,O J o,I r,O J y,U p l k],O J (FI t)])/\Hid (MsV w' (zi t) #[O J i,AT a,AT c,O J o,I r,O J y,U p l k])/\Below w.heap.size w w':=by
 obtain⟨hb,⟨M,v,hM,hl,hc,he,ho⟩|⟨E,hE,hE2,he⟩⟩:=h
 .have h0:qo t=0:=by unfold qo;rw[hM];exact hc
  have hx:FI t=0:=by unfold FI;rw[if_pos hl,if_pos h0]
  have hm:zi t=Z M:=by unfold zi;rw[if_pos ⟨hl,h0⟩,hM]
  have hcf:=cL hc;obtain⟨p,l,k,rfl⟩:∃a l c,v=U a l c:=by
   rcases ho.out.2 with⟨hv,_⟩|⟨gq,cq,_,hv,_⟩
   .exact⟨_,_,_,hv⟩
   .exact⟨_,_,_,hv⟩
  refine⟨M.id,M.ay,M.cut,M.code,M.R,M.al,p,l,k,by rw[hx];exact he,?_,hb⟩;rw[hm];exact⟨_,ho.out.sl (wZ hcf.2.2),by have:=hcf.1;omega,rfl⟩
 .have hm:zi t=Y:=by
   unfold zi;rw[if_neg (λh=>hE2 h.1 h.2)]
  have hx:FI t=E:=by
   unfold FI;rw[hE];by_cases hl:t.size<=512
   .rw[if_pos hl,if_pos hl,if_neg (hE2 hl)]
   .rw[if_neg hl,if_neg hl]
  refine⟨0,false,false,0,⟨#[]⟩,0,Y,0,0,by rw[hx];exact he,?_,hb⟩;rw[hm];exact(rfl:_=aJ)
end Go.Proofs.YtfidjlcdlakceaaGreatDoor
namespace Go.Proofs.YtfidjlcdlakceaaGreatDoor
open Go.RowKit Go.Shelf Go.Lib Go.Sort
def gx(x:ByteArray):Bool:=decide (x=ea)||decide (x=eb)
theorem BC(x:ByteArray)(W:World):FnGives be 112 #[] #[I x] (AT (gx x)) W:=by
 show Calls be 112 #[I x] W _;by_cases h1:x=ea
 .subst h1
  go_enter Tryz.func112,Tryz.ntmps112;go_wp2_with fail;go_ret;exact⟨az (by simp[gx]),0,rfl⟩
 .obtain⟨a1,a2⟩:=PC h1
  by_cases h2:x=eb
  .subst h2
   go_enter Tryz.func112,Tryz.ntmps112;go_wp2_with fail;go_ret;exact⟨az (by simp[gx]),0,rfl⟩
  .obtain⟨b1,b2⟩:=CL h2
   have HF:Hid (gx x=false):=(show gx x=false by simp[gx,h1,h2]);go_enter Tryz.func112,Tryz.ntmps112;go_wp2_with fail;go_ret;exact⟨az HF.out.symm,0,rfl⟩
def mw(L:List ByteArray):Int:=Lib.idxBy (λ_ y=>gx y) L default
def jB(L:List ByteArray):ByteArray:=mk (jn (L.map bytes))
def qE:Qu:=⟨⟨#[]⟩,⟨#[]⟩,⟨#[]⟩,⟨#[]⟩⟩
def uI(L:List ByteArray):Qu:=
 if mw L<1 then qE
 else if L.getD (mw L).toNat If=eb then⟨⟨#[]⟩,⟨#[]⟩,L.getD ((mw L).toNat-1) If,jB (L.drop ((mw L).toNat+1))⟩
 else⟨L.getD ((mw L).toNat-1) If,jB (L.take ((mw L).toNat-1)),⟨#[]⟩,jB (L.drop ((mw L).toNat+1))⟩
theorem zj:∀(L:List ByteArray) (n:Nat),(OQ (λ_ y=>gx y) (default:ByteArray) L n = -1/\∀j,j<L.length->gx (L.getD j If)=false)\/∃i,i<L.length/\OQ (λ_ y=>gx y) (default:ByteArray) L n=((n+i:Nat):Int)/\gx (L.getD i If)=true/\∀j,j<i->gx (L.getD j If)=false
 |[],n=>.inl ⟨rfl,λj hj=>absurd hj (IP _)⟩
 |x::r,n=>by
  unfold OQ;by_cases h:gx x=true
  .rw[if_pos h]
   exact .inr ⟨0,by simp,rfl,h,λj hj=>absurd hj (IP _)⟩
  .rw[if_neg h]
   have hf:gx x=false:=by simpa using h
   rcases zj r (n+1) with⟨h1,h2⟩|⟨i,h1,h2,h3,h4⟩
   .refine .inl ⟨h1,λj hj=>?_⟩
    cases j with
    |zero=>exact hf
    |succ j=>exact h2 j (by simpa using hj)
   .refine .inr ⟨i+1,by simpa using h1,by rw[h2];congr 1;omega,h3,λj hj=>?_⟩
    cases j with
    |zero=>exact hf
    |succ j=>exact h4 j (by omega)
theorem L9(L:List ByteArray):(mw L = -1/\∀j,j<L.length->gx (L.getD j If)=false)\/∃i:Nat,i<L.length/\mw L=(i:Int)/\gx (L.getD i If)=true/\∀j,j<i->gx (L.getD j If)=false:=by
 have h:=zj L 0;rcases h with h|⟨i,h1,h2,h3,h4⟩
 .exact .inl h
 .exact .inr ⟨i,h1,by rw[show mw L=OQ (λ_ y=>gx y) (default:ByteArray) L 0 from rfl,h2,I3],h3,h4⟩
theorem vK(L:List ByteArray)(g o c:Nat)(W:World)(hc:∀j,j<L.length->W.cell? ⟨g,o+j,Y⟩=Z (I (L.getD j If)))(hg:g<W.heap.size)(hL:L.length<=c)(hn:L.length<=1000)(hz:(jn (L.map bytes)).length<=100000) :
 Calls be 62 #[U (Z ⟨g,o,Y⟩) L.length c,I ⟨#[46]⟩] W λe w'=>e=sh (I (jB L))/\Below W.heap.size W w':=by
 have h3:=Tryz.strings_Join g o c L ⟨#[46]⟩ W (λj x hj=>by
  obtain⟨M6,ua⟩:=List.getElem?_eq_some_iff.1 hj;rw[hc j M6];simp[Io,M6,ua]) hg (by omega) hL (by
  rw[show(O5 #[46]).data.toList=[46] from rfl,oj];exact Ir hz (by omega))
 rw[show(O5 #[46]).data.toList=[46] from rfl,oj] at h3;exact h3
theorem tu{W:World}{o:Obj}{b k:Nat}(h:b<W.heap.size):(W.alloc o).cell? ⟨b,k,Y⟩=W.cell? ⟨b,k,Y⟩:=World.cell?_alloc_past (w:=W) _ b _ h
theorem vL{w w1:World}{a b c d:Value}{t:TypeId}(h:Below (w.alloc (AI #[a,b,c,d] t)).heap.size (w.alloc (AI #[a,b,c,d] t)) w1) :
 w1.heap[w.heap.size]?=Z (AI #[a,b,c,d] t (0,0))/\∀j,w1.frozen? ⟨w.heap.size,j,Y⟩=false:=by
 have hg:w1.heap[w.heap.size]?=Z (AI #[a,b,c,d] t (0,0)):=(h.block _ (by simp)).trans (Ie w _);exact⟨hg,λj=>by simp[Ih,hg]⟩
theorem FJ(L:List ByteArray)(g c:Nat)(w:World)(hc:∀j,j<L.length->w.cell? ⟨g,0+j,Y⟩=Z (I (L.getD j If)))(hg:g<w.heap.size)(hL:L.length<c)(hn:L.length<=100)(hz:∀L',(∃a b,L'=(L.drop a).take b)->(jn (L'.map bytes)).length<=100000) :
 Calls be 58 #[U (Z ⟨g,0,Y⟩) L.length c] w λe w'=>e=sh (Ip #[I (uI L).service,I (uI L).tag,I (uI L).node,I (uI L).ai])/\Below w.heap.size w w':=by
 have eg:∀args w,(callFunc 112 args).run be w=.ok (.enter 112 args) w:=enters_of Tryz.func112 (by kernel_rfl) rfl;have X8:Hid (∀W,Below w.heap.size w W->Calls be 113 #[U (Z ⟨g,0,Y⟩) L.length c,.func (.func 112) #[] #[]] W λe w'=>e=sh (O J (mw L))/\Below W.heap.size W w'):=λW hW=>by
  have h:=AnyE.slices_IndexFunc (P:=be) (ρ:=Tryz.CN) Tryz.ixS I gx 112 #[] eg g 0 L.length c L W (λW x _=>BC x W) (By _) (by omega) (λj hj=>by
   rw[(hW.cell (p:=⟨g,0+j,Y⟩) hg).trans (hc j hj)];simp[Io,getElem!_pos,hj])
  rw[List.take_length] at h;refine h.mono ?_;rintro e w' ⟨rfl,q,rfl⟩;exact⟨rfl,Ht (Ia _ _) _⟩
 have HC:Hid (∀W,Below w.heap.size w W->∀j,j<L.length->W.cell? ⟨g,0+j,Y⟩=Z (I (L.getD j If))):=λW hW j hj=>(hW.cell (p:=⟨g,0+j,Y⟩) hg).trans (hc j hj);have HG:Hid (uI L=if mw L<1 then qE
 else if L.getD (mw L).toNat If=eb then⟨⟨#[]⟩,⟨#[]⟩,L.getD ((mw L).toNat-1) If,jB (L.drop ((mw L).toNat+1))⟩
 else⟨L.getD ((mw L).toNat-1) If,jB (L.take ((mw L).toNat-1)),⟨#[]⟩,jB (L.drop ((mw L).toNat+1))⟩):=rfl
 have HJD:Hid (∀i W,i<L.length->Below w.heap.size w W->Calls be 62 #[U (Z ⟨g,i+1,Y⟩) (L.length-(i+1)) (c-(i+1)),I ⟨#[46]⟩] W λe w'=>e=sh (I (jB (L.drop (i+1))))/\Below W.heap.size W w'):=λi W hi hW=>by
  have h:=vK (L.drop (i+1)) g (i+1) (c-(i+1)) W (λj hj=>by
   rw[Jl] at hj;have h2:=HC.out W hW (i+1+j) (by omega);rw[I3] at h2;rw[h2];simp[Io]) (Iu hg hW.size) (by rw[Jl];omega) (by rw[Jl];omega) (hz _ ⟨i+1,L.length,by rw[IW (by rw[Jl];omega)]⟩)
  rw[Jl] at h;exact h
 have HJT:Hid (∀i W,i<=L.length->Below w.heap.size w W->Calls be 62 #[U (Z ⟨g,0,Y⟩) i c,I ⟨#[46]⟩] W λe w'=>e=sh (I (jB (L.take i)))/\Below W.heap.size W w'):=λi W hi hW=>by
  have h:=vK (L.take i) g 0 c W (λj hj=>by
   rw[IA] at hj;rw[HC.out W hW j (by omega)];simp[Io,List.getElem?_take_of_lt (show j<i by omega)]) (Iu hg hW.size) (by rw[IA];omega) (by rw[IA];omega) (hz _ ⟨0,i,by simp⟩)
  rw[IA,Nat.min_eq_left hi] at h;exact h
 have hws:=L9 L;clear eg hc hz;generalize uI L=G at *;generalize mw L=at' at *;rcases hws with⟨hw,_⟩|⟨i,hi,hw,XX,_⟩
 .subst hw
  have oP:Hid (G=qE):=HG.out;clear HG HJD HJT HC;go_enter Tryz.func58,Tryz.ntmps58;go_wp2_with fail;refine(X8.out _ ((Ia _ _).alloc (By _) _)).mono ?_;rintro e w1 ⟨rfl,an⟩;obtain⟨f0,f1,f2,f3,aK,dX⟩:=yE an;obtain⟨eL,iz⟩:=vL an;have z0:=iz 0;have z1:=iz 1;have z2:=iz 2;have z3:=iz 3;clear an iz eL;go_wp2_with fail;exact Iy (v:=Ip #[I ⟨#[]⟩,I ⟨#[]⟩,I ⟨#[]⟩,I ⟨#[]⟩]) (by simp[results,Tryz.results58,go_sem,f0,f1,f2,f3]) rfl ⟨by rw[oP.out];rfl,(((aK.out.setCell (p:=⟨w.heap.size,0,Y⟩) (By _) _).setCell (p:=⟨w.heap.size,1,Y⟩) (By _) _).setCell (p:=⟨w.heap.size,2,Y⟩) (By _) _).setCell (p:=⟨w.heap.size,3,Y⟩) (By _) _⟩
 .subst hw
  have e1:((i:Int)).toNat=i:=by omega
  by_cases h1:(i:Int)<1
  .have oP:Hid (G=qE):=(show G=qE by rw[HG.out,if_pos h1])
   have eP:i=0:=by omega
   subst eP;clear HG HJD HJT HC;go_enter Tryz.func58,Tryz.ntmps58;go_wp2_with fail;refine(X8.out _ ((Ia _ _).alloc (By _) _)).mono ?_;rintro e w1 ⟨rfl,an⟩;obtain⟨f0,f1,f2,f3,aK,dX⟩:=yE an;obtain⟨eL,iz⟩:=vL an;have z0:=iz 0;have z1:=iz 1;have z2:=iz 2;have z3:=iz 3;clear an iz eL;go_wp2_with fail;exact Iy (v:=Ip #[I ⟨#[]⟩,I ⟨#[]⟩,I ⟨#[]⟩,I ⟨#[]⟩]) (by simp[results,Tryz.results58,go_sem,f0,f1,f2,f3]) rfl ⟨by rw[oP.out];rfl,(((aK.out.setCell (p:=⟨w.heap.size,0,Y⟩) (By _) _).setCell (p:=⟨w.heap.size,1,Y⟩) (By _) _).setCell (p:=⟨w.heap.size,2,Y⟩) (By _) _).setCell (p:=⟨w.heap.size,3,Y⟩) (By _) _⟩
  .have hh:=HG.out
   rw[if_neg h1,e1] at hh;go_enter Tryz.func58,Tryz.ntmps58;go_wp2_with fail;refine(X8.out _ ((Ia _ _).alloc (By _) _)).mono ?_;rintro e w1 ⟨rfl,an⟩;obtain⟨f0,f1,f2,f3,aK,dX⟩:=yE an;obtain⟨eL,iz⟩:=vL an;have z0:=iz 0;have z1:=iz 1;have z2:=iz 2;have z3:=iz 3;clear an iz eL;go_wp2_with fail;refine(HJD.out i _ hi aK.out).mono ?_;rintro e w2 ⟨rfl,aD⟩;have bD:Hid (Below w.heap.size w w2):=aK.out.trans (aD.mono (J4 dX));have oA:Hid (Below w1.heap.size w1 w2):=aD;have g0:=(aD.cell (p:=⟨w.heap.size,0,Y⟩) dX).trans f0;have g1:=(aD.cell (p:=⟨w.heap.size,1,Y⟩) dX).trans f1;have g2:=(aD.cell (p:=⟨w.heap.size,2,Y⟩) dX).trans f2;have g3:=(aD.cell (p:=⟨w.heap.size,3,Y⟩) dX).trans f3;have y0:=(aD.frozen (p:=⟨w.heap.size,0,Y⟩) dX).trans z0;have y1:=(aD.frozen (p:=⟨w.heap.size,1,Y⟩) dX).trans z1;have y2:=(aD.frozen (p:=⟨w.heap.size,2,Y⟩) dX).trans z2;have y3:=(aD.frozen (p:=⟨w.heap.size,3,Y⟩) dX).trans z3;have ci:=HC.out w2 bD.out i hi;have cm:=HC.out w2 bD.out (i-1) (by omega);rw[I3] at ci cm;have iQ:g<w2.heap.size:=Iu hg bD.out.size;have dK:w.heap.size<w2.heap.size:=Iu dX oA.out.size;have e0:g≠w2.heap.size:=by omega
   have e2:w.heap.size≠w2.heap.size:=by omega
   have hwm:IntKind.i64.wrap ((i:Int)-1)=((i-1:Nat):Int):=by rw[IN];omega
   have him:((i-1:Nat):Int)<(L.length:Int):=by omega
   have agz:(0:Int)<=((i-1:Nat):Int):=by omega
   have hic:((i-1:Nat):Int)<=(c:Int):=by omega
   have HJ2:Hid (∀W,Below w.heap.size w W->Calls be 62 #[U (Z ⟨g,0,Y⟩) (i-1) c,I ⟨#[46]⟩] W λe w'=>e=sh (I (jB (L.take (i-1))))/\Below W.heap.size W w'):=λW hW=>HJT.out (i-1) W (by omega) hW;clear f0 f1 f2 f3 z0 z1 z2 z3 aD HC HJD HJT HG;have HGG:Hid (G=if L.getD i If=eb then⟨⟨#[]⟩,⟨#[]⟩,L.getD (i-1) If,jB (L.drop (i+1))⟩ else⟨L.getD (i-1) If,jB (L.take (i-1)),⟨#[]⟩,jB (L.drop (i+1))⟩):=hh;clear hh;generalize hli:L.getD i If=li at *;generalize L.getD (i-1) If=lm at *;generalize jB (L.drop (i+1))=jd at *;generalize jB (L.take (i-1))=jt at *;clear hli;generalize oS:i-1=m at *;clear oS;by_cases sW:li=eb
   .subst sW
    have oP:Hid (G=⟨⟨#[]⟩,⟨#[]⟩,lm,jd⟩):=HGG.out;clear HGG HJ2;go_wp2_with fail;exact Iy (v:=Ip #[I ⟨#[]⟩,I ⟨#[]⟩,I lm,I jd]) (by simp[results,Tryz.results58,go_sem,g0,g1,g2,g3,tu,dK]) rfl ⟨by rw[oP.out],((((bD.out.setCell (p:=⟨w.heap.size,0,Y⟩) (By _) _).setCell (p:=⟨w.heap.size,1,Y⟩) (By _) _).setCell (p:=⟨w.heap.size,2,Y⟩) (By _) _).setCell (p:=⟨w.heap.size,3,Y⟩) (By _) _).alloc (by simp;omega) _⟩
   .have oP:Hid (G=⟨lm,jt,⟨#[]⟩,jd⟩):=(show G=_ by rw[HGG.out,if_neg sW])
    obtain⟨b1,b2⟩:=CL sW;clear HGG sW XX;go_wp2_with fail;refine(HJ2.out _ (bD.out.alloc (by omega) _)).mono ?_;rintro e w3 ⟨rfl,bn⟩;obtain⟨q0,q1,q2,q3,cT,uT⟩:=yE bn;obtain⟨_,qz⟩:=vL bn;have r0:=(cT.out.cell (p:=⟨w.heap.size,0,Y⟩) dK).trans g0;have r1:=(cT.out.cell (p:=⟨w.heap.size,1,Y⟩) dK).trans g1;have r2:=(cT.out.cell (p:=⟨w.heap.size,2,Y⟩) dK).trans g2;have r3:=(cT.out.cell (p:=⟨w.heap.size,3,Y⟩) dK).trans g3;have x0:=(cT.out.frozen (p:=⟨w.heap.size,0,Y⟩) dK).trans y0;have x1:=(cT.out.frozen (p:=⟨w.heap.size,1,Y⟩) dK).trans y1;have x2:=(cT.out.frozen (p:=⟨w.heap.size,2,Y⟩) dK).trans y2;have x3:=(cT.out.frozen (p:=⟨w.heap.size,3,Y⟩) dK).trans y3;have FK:=qz 1;have VE:Hid (Below w.heap.size w w3):=bD.out.trans (cT.out.mono (J4 dK));clear g0 g1 g2 g3 y0 y1 y2 y3 bn ci cm HJ2 qz;go_wp2_with fail;exact Iy (v:=Ip #[I lm,I jt,I ⟨#[]⟩,I jd]) (by simp[results,Tryz.results58,go_sem,r0,r1,r2,r3]) rfl ⟨by rw[oP.out],((((VE.out.setCell (p:=⟨w2.heap.size,1,Y⟩) (J4 dK) _).setCell (p:=⟨w.heap.size,0,Y⟩) (By _) _).setCell (p:=⟨w.heap.size,1,Y⟩) (By _) _).setCell (p:=⟨w.heap.size,2,Y⟩) (By _) _).setCell (p:=⟨w.heap.size,3,Y⟩) (By _) _⟩
end Go.Proofs.YtfidjlcdlakceaaGreatDoor
namespace Go.Proofs.YtfidjlcdlakceaaGreatDoor
open Go.RowKit
def mR(s:ByteArray):List ByteArray:=(gH s.data.toList).map mk
def ue(s:ByteArray):Qu:=uI (mR s).dropLast
def V6(s:ByteArray):ByteArray:=(mR s).getD ((mR s).length-1) If
def eI(s:ByteArray):Int:=if bQ s=0 then(if V6 s=gf then(if iY (ue s)=0/\kK (ue s)=s then 0 else 1) else 8) else bQ s
def cZ(s:ByteArray):Qu:=if eI s=0 then ue s else qE
theorem gy{s:ByteArray}(h:bQ s=0):s.size<=120/\(gH s.data.toList).length<=8/\∀x∈gH s.data.toList,x.length<=30:=by
 unfold bQ at h;by_cases h0:s.size=0
 .have:=cx h0
  subst this;exact⟨by omega,by decide,by decide⟩
 .rw[if_neg h0] at h
  by_cases h1:(gH s.data.toList).all ju=false
  .rw[if_pos h1] at h;omega
  .rw[if_neg h1] at h
   by_cases h2:8<(gH s.data.toList).length\/120<s.size
   .rw[if_pos h2] at h;omega
   .refine⟨by omega,by omega,λx hx=>?_⟩
    have h3:(gH s.data.toList).all ju=true:=by simpa using h1
    exact(DX (List.all_eq_true.1 h3 x hx)).2
theorem rP(s:ByteArray):(mR s).length=(gH s.data.toList).length:=by unfold mR;rw[Ov]
theorem P2(s:ByteArray):0<(mR s).length:=by rw[rP];exact List.length_pos_iff.2 (An _)
theorem vM{s:ByteArray}(h:bQ s=0):∀x∈mR s,x.size<=30:=λx hx=>by
 obtain⟨y,hy,rfl⟩:=Oo.1 hx;rw[gB];exact(gy h).2.2 y hy
theorem vN{L:List ByteArray}(hn:L.length<=8)(h:∀x∈L,x.size<=30){a b:Nat}:(jn (((L.drop a).take b).map bytes)).length<=248:=by
 refine Ir (CP _ λx hx=>?_) ?_
 .obtain⟨y,hy,rfl⟩:=Oo.1 hx
  have:=h y (List.mem_of_mem_drop (List.mem_of_mem_take hy));simpa[bytes] using this
 .rw[Ov,IA,Jl];omega
theorem BD{L:List ByteArray}(h:∀x∈L,x.size<=30)(j:Nat):(L.getD j If).size<=30:=by
 by_cases hj:j<L.length
 .rw[show L.getD j If=L[j] by simp[Io,Ic hj]]
  exact h _ (IQ hj)
 .rw[show L.getD j If=If by simp[Io,List.getElem?_eq_none (by omega:L.length<=j)]];decide
theorem zk{L:List ByteArray}(hn:L.length<=8)(h:∀x∈L,x.size<=30)(a b:Nat):(jB ((L.drop a).take b)).size<=248:=by
 unfold jB;rw[gB];exact vN hn h
theorem Ma{L:List ByteArray}(hn:L.length<=8)(h:∀x∈L,x.size<=30):(uI L).ok:=by
 have hd:∀a,(jB (L.drop a)).size<=248:=λa=>by
  have:=zk hn h a L.length
  rwa [IW (by rw[Jl];omega)] at this
 have ht:∀a,(jB (L.take a)).size<=248:=λa=>by
  have:=zk hn h 0 a
  rwa [List.drop_zero] at this
 have hg:=BD h;have e0:(O5 #[]).size=0:=rfl;unfold uI;split
 .exact⟨by decide,by decide,by decide,by decide⟩
 .have h1:=hd ((mw L).toNat+1)
  have h2:=ht ((mw L).toNat-1);have h3:=hg ((mw L).toNat-1);split
  .refine⟨?_,?_,?_,?_⟩<;>unfold Ii<;>simp only[e0]<;>omega
  .refine⟨?_,?_,?_,?_⟩<;>unfold Ii<;>simp only[e0]<;>omega
theorem pQ(s:ByteArray)(w:World)(hm:ML w)(hs:s.size<=Ii) :
 Calls be 22 #[I s] w λe w'=>e=sh (Il #[Ip #[I (cZ s).service,I (cZ s).tag,I (cZ s).node,I (cZ s).ai],O J (eI s)])/\Below w.heap.size w w':=by
 have M9:Hid (∀W,Calls be 25 #[I s] W λe w'=>e=sh (O J (bQ s))/\Below W.heap.size W w'):=λW=>il s W hs;by_cases h0:bQ s=0
 .obtain⟨b1,b2,_⟩:=gy h0
  have Km:Hid (∀W,Below w.heap.size w W->Calls be 57 #[I s,I ⟨#[46]⟩] W λe w'=>e=sh (U (Z ⟨W.heap.size,0,Y⟩) (mR s).length (mR s).length)/\w'=W.alloc (AI ((mR s).map I).toArray 9)):=λW hW=>by
   have h:=uQ s W (hm.below hW) (by omega);rw[<- rP] at h;exact h
  have hlen:(mR s).length<=8:=by rw[rP];exact b2
  have Mb:=vM h0;have mG:=P2 s;have XZ:(mR s).dropLast.length=(mR s).length-1:=List.length_dropLast;have hdm:∀x∈(mR s).dropLast,x.size<=30:=λx hx=>Mb x ((List.dropLast_sublist _).subset hx);have HGU:Hid (∀(g:Nat) (W:World),W.heap[g]?=Z (AI ((mR s).map I).toArray 9 (0,0))->Calls be 58 #[U (Z ⟨g,0,Y⟩) ((mR s).length-1) (mR s).length] W λe w'=>e=sh (Ip #[I (ue s).service,I (ue s).tag,I (ue s).node,I (ue s).ai])/\Below W.heap.size W w'):=λg W hg=>by
   have h:=FJ (mR s).dropLast g (mR s).length W (λj hj=>by
    rw[I3,af hg];have ua:j<(mR s).length:=by omega
    simp[Io,ua,show j<(mR s).length-1 by omega]) (Array.getElem?_eq_some_iff.1 hg).1 (by omega) (by omega) (λL' ⟨a,b,e⟩=>by
    rw[e];exact Ir (vN (by omega) hdm) (by omega))
   rw[XZ] at h;exact h
  have XC:Hid (∀W,Calls be 8 #[Ip #[I (ue s).service,I (ue s).tag,I (ue s).node,I (ue s).ai]] W λe w'=>e=sh (Il #[I (kK (ue s)),O J (iY (ue s))])/\Below W.heap.size W w'):=λW=>mq (ue s) W (Ma (by omega) hdm);have HE:Hid (eI s=if V6 s=gf then(if iY (ue s)=0/\kK (ue s)=s then 0 else 1) else 8):=(show eI s=_ by unfold eI;rw[if_pos h0]);have HQ:Hid (cZ s=if eI s=0 then ue s else qE):=rfl;have HLA:Hid (∀(g:Nat) (W:World),W.heap[g]?=Z (AI ((mR s).map I).toArray 9 (0,0))->W.cell? ⟨g,(mR s).length-1,Y⟩=Z (I (V6 s))):=λg W hg=>by
   rw[af hg];have ua:(mR s).length-1<(mR s).length:=by omega
   simp[V6,Io,ua]
  rw[h0] at M9;clear Mb XZ hdm b1 b2 hm h0;generalize eI s=E at *;generalize cZ s=Q at *;generalize iY (ue s)=pe at *;generalize kK (ue s)=ps at *;generalize ue s=q at *;generalize V6 s=la at *;generalize hLL:(mR s).map I=LV at *;clear hLL;generalize(mR s).length=n at *;obtain⟨qs,qt,qn,qc⟩:=q;simp only at HGU XC HQ;go_enter Tryz.func22,Tryz.ntmps22;go_wp2_with fail;refine(M9.out _).mono ?_;rintro e w1 ⟨rfl,an⟩;obtain⟨f0,f1,f2,f3,aK,dX⟩:=yE an;obtain⟨_,iz⟩:=vL an;have z0:=iz 0;have z1:=iz 1;have z2:=iz 2;have z3:=iz 3;clear an iz;go_wp2_with fail;refine(Km.out _ aK.out).mono ?_;rintro e w2 ⟨rfl,qR⟩;have oA:Hid (Below w1.heap.size w1 w2):=(show Below _ _ _ by rw[qR];exact(Ia _ _).alloc (By _) _);have oU:w2.heap[w1.heap.size]?=Z (AI LV.toArray 9 (0,0)):=by rw[qR];exact Ie w1 _
  have HGL:Hid (w2.heap[w1.heap.size]?=Z (AI LV.toArray 9 (0,0))):=oU;have cl:=HLA.out _ _ oU;have dK:w.heap.size<w2.heap.size:=Iu dX oA.out.size;have bD:Hid (Below w.heap.size w w2):=aK.out.trans (oA.out.mono (J4 dX));have g0:=(oA.out.cell (p:=⟨w.heap.size,0,Y⟩) dX).trans f0;have g1:=(oA.out.cell (p:=⟨w.heap.size,1,Y⟩) dX).trans f1;have g2:=(oA.out.cell (p:=⟨w.heap.size,2,Y⟩) dX).trans f2;have g3:=(oA.out.cell (p:=⟨w.heap.size,3,Y⟩) dX).trans f3;have y0:=(oA.out.frozen (p:=⟨w.heap.size,0,Y⟩) dX).trans z0;have y1:=(oA.out.frozen (p:=⟨w.heap.size,1,Y⟩) dX).trans z1;have y2:=(oA.out.frozen (p:=⟨w.heap.size,2,Y⟩) dX).trans z2;have y3:=(oA.out.frozen (p:=⟨w.heap.size,3,Y⟩) dX).trans z3;have hwm:IntKind.i64.wrap ((n:Int)-1)=((n-1:Nat):Int):=by rw[IN];omega
  have him:((n-1:Nat):Int)<(n:Int):=by omega
  have agz:(0:Int)<=((n-1:Nat):Int):=by omega
  have hic:((n-1:Nat):Int)<=(n:Int):=by omega
  clear f0 f1 f2 f3 z0 z1 z2 z3 oU qR Km HLA;generalize oS:n-1=m at *;clear oS;by_cases Eb:la=gf
  .have iV:Hid (E=if pe=0/\ps=s then 0 else 1):=(show E=_ by rw[HE.out,if_pos Eb])
   subst Eb;clear HE;go_wp2_with fail;refine(HGU.out _ _ HGL.out).mono ?_;rintro e w3 ⟨rfl,bn⟩;have r0:=(bn.cell (p:=⟨w.heap.size,0,Y⟩) dK).trans g0;have r1:=(bn.cell (p:=⟨w.heap.size,1,Y⟩) dK).trans g1;have r2:=(bn.cell (p:=⟨w.heap.size,2,Y⟩) dK).trans g2;have r3:=(bn.cell (p:=⟨w.heap.size,3,Y⟩) dK).trans g3;have x0:=(bn.frozen (p:=⟨w.heap.size,0,Y⟩) dK).trans y0;have x1:=(bn.frozen (p:=⟨w.heap.size,1,Y⟩) dK).trans y1;have x2:=(bn.frozen (p:=⟨w.heap.size,2,Y⟩) dK).trans y2;have x3:=(bn.frozen (p:=⟨w.heap.size,3,Y⟩) dK).trans y3;have uT:w.heap.size<w3.heap.size:=Iu dK bn.size;have cT:Hid (Below w.heap.size w w3):=bD.out.trans (bn.mono (J4 dK));clear g0 g1 g2 g3 y0 y1 y2 y3 bn cl HGL HGU;go_wp2_with fail;refine(XC.out _).mono ?_;rintro e w4 ⟨rfl,e9⟩;obtain⟨q0,q1,q2,q3,xe,amw⟩:=yE e9;have g0:=(xe.out.cell (p:=⟨w.heap.size,0,Y⟩) uT).trans r0;have g1:=(xe.out.cell (p:=⟨w.heap.size,1,Y⟩) uT).trans r1;have g2:=(xe.out.cell (p:=⟨w.heap.size,2,Y⟩) uT).trans r2;have g3:=(xe.out.cell (p:=⟨w.heap.size,3,Y⟩) uT).trans r3;have y0:=(xe.out.frozen (p:=⟨w.heap.size,0,Y⟩) uT).trans x0;have y1:=(xe.out.frozen (p:=⟨w.heap.size,1,Y⟩) uT).trans x1;have y2:=(xe.out.frozen (p:=⟨w.heap.size,2,Y⟩) uT).trans x2;have y3:=(xe.out.frozen (p:=⟨w.heap.size,3,Y⟩) uT).trans x3;have fb:Hid (Below w.heap.size w w4):=cT.out.trans (xe.out.mono (J4 uT));clear r0 r1 r2 r3 x0 x1 x2 x3 e9 XC;by_cases hpe:pe=0
   .subst hpe
    by_cases Xy:ps=s
    .subst Xy
     have GX:Hid (E=0):=(show E=0 by rw[iV.out];simp);have V7:Hid (Q=⟨qs,qt,qn,qc⟩):=(show Q=_ by rw[HQ.out,GX.out];rfl);clear iV HQ;go_wp2_with fail;exact Iy (v:=Il #[Ip #[I qs,I qt,I qn,I qc],O J 0]) (by simp[results,Tryz.results22,go_sem,g0,g1,g2,g3]) rfl ⟨by rw[GX.out,V7.out];try rfl,(((fb.out.setCell (p:=⟨w.heap.size,0,Y⟩) (By _) _).setCell (p:=⟨w.heap.size,1,Y⟩) (By _) _).setCell (p:=⟨w.heap.size,2,Y⟩) (By _) _).setCell (p:=⟨w.heap.size,3,Y⟩) (By _) _⟩
    .have GX:Hid (E=1):=(show E=1 by rw[iV.out,if_neg (λh=>Xy h.2)])
     have V7:Hid (Q=qE):=(show Q=qE by rw[HQ.out,GX.out];rfl);obtain⟨k1,k2⟩:=eJ Xy;clear iV HQ Xy;go_wp2_with fail;exact Iy (v:=Il #[Ip #[I ⟨#[]⟩,I ⟨#[]⟩,I ⟨#[]⟩,I ⟨#[]⟩],O J 1]) (by simp[results,Tryz.results22,go_sem,g0,g1,g2,g3]) rfl ⟨by rw[GX.out,V7.out];try rfl,(((fb.out.setCell (p:=⟨w.heap.size,0,Y⟩) (By _) _).setCell (p:=⟨w.heap.size,1,Y⟩) (By _) _).setCell (p:=⟨w.heap.size,2,Y⟩) (By _) _).setCell (p:=⟨w.heap.size,3,Y⟩) (By _) _⟩
   .have GX:Hid (E=1):=(show E=1 by rw[iV.out,if_neg (λh=>hpe h.1)])
    have V7:Hid (Q=qE):=(show Q=qE by rw[HQ.out,GX.out];rfl);have k1:(pe==0)=false:=by simpa using hpe
    clear iV HQ;go_wp2_with fail;exact Iy (v:=Il #[Ip #[I ⟨#[]⟩,I ⟨#[]⟩,I ⟨#[]⟩,I ⟨#[]⟩],O J 1]) (by simp[results,Tryz.results22,go_sem,g0,g1,g2,g3]) rfl ⟨by rw[GX.out,V7.out];try rfl,(((fb.out.setCell (p:=⟨w.heap.size,0,Y⟩) (By _) _).setCell (p:=⟨w.heap.size,1,Y⟩) (By _) _).setCell (p:=⟨w.heap.size,2,Y⟩) (By _) _).setCell (p:=⟨w.heap.size,3,Y⟩) (By _) _⟩
  .have iV:Hid (E=8):=(show E=_ by rw[HE.out,if_neg Eb])
   have V7:Hid (Q=qE):=(show Q=qE by rw[HQ.out,iV.out];rfl);obtain⟨m1,m2⟩:=PD Eb;clear HE HQ Eb;go_wp2_with fail;exact Iy (v:=Il #[Ip #[I ⟨#[]⟩,I ⟨#[]⟩,I ⟨#[]⟩,I ⟨#[]⟩],O J 8]) (by simp[results,Tryz.results22,go_sem,g0,g1,g2,g3]) rfl ⟨by rw[iV.out,V7.out];rfl,(((bD.out.setCell (p:=⟨w.heap.size,0,Y⟩) (By _) _).setCell (p:=⟨w.heap.size,1,Y⟩) (By _) _).setCell (p:=⟨w.heap.size,2,Y⟩) (By _) _).setCell (p:=⟨w.heap.size,3,Y⟩) (By _) _⟩
 .have HE:Hid (eI s=bQ s):=(show eI s=_ by unfold eI;rw[if_neg h0])
  have HQ:Hid (cZ s=qE):=(show cZ s=qE by unfold cZ;rw[if_neg (by rw[HE.out];exact h0)]);rw[HE.out,HQ.out];have h1:(bQ s==0)=false:=by simpa using h0
  clear HE HQ;generalize bQ s=r at *;go_enter Tryz.func22,Tryz.ntmps22;go_wp2_with fail;refine(M9.out _).mono ?_;rintro e w1 ⟨rfl,an⟩;obtain⟨f0,f1,f2,f3,aK,dX⟩:=yE an;obtain⟨_,iz⟩:=vL an;have z0:=iz 0;have z1:=iz 1;have z2:=iz 2;have z3:=iz 3;clear an iz;go_wp2_with fail;exact Iy (v:=Il #[Ip #[I ⟨#[]⟩,I ⟨#[]⟩,I ⟨#[]⟩,I ⟨#[]⟩],O J r]) (by simp[results,Tryz.results22,go_sem,f0,f1,f2,f3]) rfl ⟨rfl,(((aK.out.setCell (p:=⟨w.heap.size,0,Y⟩) (By _) _).setCell (p:=⟨w.heap.size,1,Y⟩) (By _) _).setCell (p:=⟨w.heap.size,2,Y⟩) (By _) _).setCell (p:=⟨w.heap.size,3,Y⟩) (By _) _⟩
abbrev Da:ByteArray:=⟨#[116,46,115,46,115,101,114,118,105,99,101,46,99,46,109,101,115,104]⟩
theorem Mc:eI Da=0:=by kernel_rfl
theorem V8:cZ Da=⟨⟨#[115]⟩,⟨#[116]⟩,⟨#[]⟩,⟨#[99]⟩⟩:=by kernel_rfl
theorem tv(w:World)(hm:ML w):Calls be 7 #[] w λe w'=>e=sh (AT true)/\Below w.heap.size w w':=by
 have HP:Hid (∀W,Below w.heap.size w W->Calls be 22 #[I Da] W λe w'=>e=sh (Il #[Ip #[I ⟨#[115]⟩,I ⟨#[116]⟩,I ⟨#[]⟩,I ⟨#[99]⟩],O J 0])/\Below W.heap.size W w'):=λW hW=>by
  have h:=pQ Da W (hm.below hW) (by decide);rw[Mc,V8] at h;exact h
 go_enter Tryz.func7,Tryz.ntmps7;go_wp2_with fail;refine(HP.out _ (Ia _ _)).mono ?_;rintro e w1 ⟨rfl,an⟩;have aK:Hid (Below w.heap.size w w1):=an;clear an;go_wp2_with fail;go_ret;exact⟨rfl,aK.out.alloc aK.out.size _⟩
theorem tz(x:ByteArray):jB [x]=x:=mk_data x
theorem Md{x:ByteArray}(h:hJ x=false):gx x=false:=by
 have h2:=λe=>(Bool.eq_false_iff.1 h) ((Lr x).2 e);simp only[gx,Bool.or_eq_false_iff,decide_eq_false_iff_not];exact⟨λe=>h2 (.inl e),λe=>h2 (.inr (.inl e))⟩
theorem V9{x:ByteArray}(h:pM x=false):gx x=false:=by
 have h2:=λe=>(Bool.eq_false_iff.1 h) ((Lq x).2 e);simp only[gx,Bool.or_eq_false_iff,decide_eq_false_iff_not];exact⟨λe=>h2 (.inl e),λe=>h2 (.inr e)⟩
theorem rQ:gx ea=true:=by simp[gx]
theorem Db:gx eb=true:=by simp[gx]
theorem P3{s:ByteArray}(h:eZ s=true)(h0:s.size≠0):46 ∉ bytes s:=by
 have h1:aA s=true:=by
  unfold eZ at h;simp only[Bool.or_eq_true,decide_eq_true_eq] at h;rcases h with rfl|h
  .exact absurd rfl h0
  .exact h
 exact DW (l:=bytes s) (by unfold ju;rw[show mk (bytes s)=s from mk_data s];exact h1)
theorem lM{s:ByteArray}(h:eZ s=true):∀x∈opt s,46 ∉ x:=λx hx=>by
 unfold opt at hx;by_cases h0:s.size=0
 .rw[if_pos h0] at hx;cases hx
 .rw[if_neg h0,Og] at hx
  subst hx;exact P3 h h0
theorem P4{q:Qu}(h:fO q=0):mR (prt q)=(sP q).map mk:=by
 obtain⟨_,z1,z2,z3,z4,_⟩:=jN h;unfold mR prt;rw[nL,Hq]
 .unfold sP;split<;>simp
 .intro x hx
  unfold sP at hx;split at hx
  .simp only[J1,Og] at hx
   rcases hx with h|h|h|h|h
   .exact lM z2 x h
   .exact lM z1 x h
   .subst h;decide
   .exact lM z4 x h
   .subst h;decide
  .simp only[J1,Og] at hx
   rcases hx with h|h|h|h
   .exact lM z3 x h
   .subst h;decide
   .exact lM z4 x h
   .subst h;decide
theorem FM{q:Qu}(h:fO q=0):V6 (prt q)=gf/\ue (prt q)=q:=by
 have hl:=P4 h;obtain⟨zf,_,_,_,_,zw⟩:=jN h;obtain⟨sv,tg,nd,ce⟩:=q;have hw:pM nd=false/\hJ tg=false/\hJ sv=false/\hJ ce=false:=by
  have h2:(pM nd||hJ tg||hJ sv||hJ ce)=false:=zw;simpa[Bool.or_eq_false_iff,and_assoc] using h2
 obtain⟨w1,w2,w3,_⟩:=hw;have d1:=V9 w1;have d2:=Md w2;have d3:=Md w3;have sn:¬ ea=eb:=by decide
 have m1:mk oh=ea:=rfl;have m2:mk ic=gf:=rfl;have m3:mk oi=eb:=rfl;have mb:∀s:ByteArray,mk (bytes s)=s:=mk_data;unfold wP at zf;simp only at zf;unfold V6 ue;rw[hl];unfold sP;simp only;by_cases hn:nd.size=0
 .have hs:sv.size≠0:=λhs=>by simp[hn,hs] at zf
  rw[if_pos hn,gQ hs];have en:=cx hn;subst en;by_cases ht:tg.size=0<;>by_cases hc:ce.size=0
  .have et:=cx ht
   have ec:=cx hc;subst et ec;rw[lG ht];simp only[Qo,OM,Qv,QV,m1,m2,mb];refine⟨rfl,?_⟩;show uI [sv,ea]=_;have EC:mw [sv,ea]=1:=by simp[mw,Lib.idxBy,OQ,d3,rQ]
   unfold uI;rw[EC,if_neg (by decide)];refine(if_neg ?hh).trans ?_
   case hh=>exact sn
   rfl
  .have et:=cx ht
   subst et;rw[lG ht,gQ hc];simp only[Qo,OM,Qv,QV,m1,m2,mb];refine⟨rfl,?_⟩;show uI [sv,ea,ce]=_;have EC:mw [sv,ea,ce]=1:=by simp[mw,Lib.idxBy,OQ,d3,rQ]
   unfold uI;rw[EC,if_neg (by decide)];refine(if_neg ?hh).trans ?_
   case hh=>exact sn
   show Qu.mk sv (jB []) ⟨#[]⟩ (jB [ce])=_;rw[tz];rfl
  .have ec:=cx hc
   subst ec;rw[gQ ht,lG hc];simp only[Qo,OM,Qv,QV,m1,m2,mb];refine⟨rfl,?_⟩;show uI [tg,sv,ea]=_;have EC:mw [tg,sv,ea]=2:=by simp[mw,Lib.idxBy,OQ,d2,d3,rQ]
   unfold uI;rw[EC,if_neg (by decide)];refine(if_neg ?hh).trans ?_
   case hh=>exact sn
   show Qu.mk sv (jB [tg]) ⟨#[]⟩ (jB [])=_;rw[tz];rfl
  .rw[gQ ht,gQ hc]
   simp only[Qo,OM,Qv,QV,m1,m2,mb];refine⟨rfl,?_⟩;show uI [tg,sv,ea,ce]=_;have EC:mw [tg,sv,ea,ce]=2:=by simp[mw,Lib.idxBy,OQ,d2,d3,rQ]
   unfold uI;rw[EC,if_neg (by decide)];refine(if_neg ?hh).trans ?_
   case hh=>exact sn
   show Qu.mk sv (jB [tg]) ⟨#[]⟩ (jB [ce])=_;rw[tz,tz]
 .have hs:sv.size=0:=by
   by_cases hs:sv.size=0
   .exact hs
   .simp[hn,hs] at zf
  have ht:tg.size=0:=by
   by_cases ht:tg.size=0
   .exact ht
   .simp[hn,hs,ht] at zf
  have es:=cx hs;have et:=cx ht;subst es et;rw[if_neg hn,gQ hn];by_cases hc:ce.size=0
  .have ec:=cx hc
   subst ec;rw[lG hc];simp only[Qo,OM,Qv,QV,m2,m3,mb];refine⟨rfl,?_⟩;show uI [nd,eb]=_;have EC:mw [nd,eb]=1:=by simp[mw,Lib.idxBy,OQ,d1,Db]
   unfold uI;rw[EC,if_neg (by decide)];refine(if_pos ?hh).trans ?_
   case hh=>exact rfl
   rfl
  .rw[gQ hc]
   simp only[Qo,OM,Qv,QV,m2,m3,mb];refine⟨rfl,?_⟩;show uI [nd,eb,ce]=_;have EC:mw [nd,eb,ce]=1:=by simp[mw,Lib.idxBy,OQ,d1,Db]
   unfold uI;rw[EC,if_neg (by decide)];refine(if_pos ?hh).trans ?_
   case hh=>exact rfl
   show Qu.mk ⟨#[]⟩ ⟨#[]⟩ nd (jB [ce])=_;rw[tz]
theorem Me{q:Qu}(h:iY q=0):eI (kK q)=0/\cZ (kK q)=q:=by
 have hs:kK q=prt q:=if_pos h;have hq:fO q=0:=by
  unfold iY at h;by_cases h0:fO q=0
  .exact h0
  .rw[if_neg h0] at h;exact h
 have hn:bQ (prt q)=0:=by unfold iY at h;rwa [if_pos hq] at h
 obtain⟨h1,h2⟩:=FM hq;have he:eI (prt q)=0:=by
  unfold eI;rw[if_pos hn,if_pos h1,h2,if_pos ⟨h,hs⟩]
 rw[hs];refine⟨he,?_⟩;unfold cZ;rw[if_pos he,h2]
theorem Dc(s:ByteArray):(cZ s).ok:=by
 unfold cZ;by_cases h:eI s=0
 .rw[if_pos h]
  have h0:bQ s=0:=by
   by_cases h0:bQ s=0
   .exact h0
   .unfold eI at h;rw[if_neg h0] at h;exact h
  have hl:(mR s).length<=8:=by rw[rP];exact(gy h0).2.1
  have hd:(mR s).dropLast.length=(mR s).length-1:=List.length_dropLast;exact Ma (by omega) (λx hx=>vM h0 x ((List.dropLast_sublist _).subset hx))
 .rw[if_neg h]
  exact⟨by decide,by decide,by decide,by decide⟩
def dU(s:ByteArray):Bool:=decide (s.size<12)||decide (128<=(s.data.toList.getD 2 0).toNat)
def mS(s:ByteArray):Int:=256*((s.data.toList.getD 0 0).toNat:Int)+((s.data.toList.getD 1 0).toNat:Int)
theorem Mf(s:ByteArray):0<=mS s/\mS s<=65535:=by
 unfold mS;have h0:=(s.data.toList.getD 0 0).toNat_lt;have h1:=(s.data.toList.getD 1 0).toNat_lt;omega
def jC(name:ByteArray)(al:Int)(here:ByteArray)(sv:List Sv.ba)(ms:List Mem)(p:Pl)(wh:List Wh.cd):List Rc.Rec:=
 if eI name=0 then(if(oo (cZ name) al here sv ms p wh).e=0 then(oo (cZ name) al here sv ms p wh).rs else[]) else[]
def lN(name:ByteArray)(al:Int)(here:ByteArray)(sv:List Sv.ba)(ms:List Mem)(p:Pl)(wh:List Wh.cd):Int:=
 if eI name=0 then(if(oo (cZ name) al here sv ms p wh).e=0 then(oo (cZ name) al here sv ms p wh).code else 2) else if eI name=8 then 4 else 3
structure Rp where
 code:Int
 al:Int
 R:ByteArray
 rs:List Rc.Rec
def fZ(s here:ByteArray)(sv:List Sv.ba)(ms:List Mem)(p:Pl)(wh:List Wh.cd):Rp:=match zi s with
 |some M=>if M.rs.length=0 then⟨lN M.R M.al here sv ms p wh,M.al,M.R,jC M.R M.al here sv ms p wh⟩ else⟨1,1,⟨#[]⟩,[]⟩
 |none=>⟨1,1,⟨#[]⟩,[]⟩
theorem zl{s:ByteArray}{M:Ms}(h:zi s=Z M):bc M.id M.code M.al M.R M.rs=0:=by
 unfold zi at h;by_cases hc:s.size<=512/\qo s=0
 .rw[if_pos hc] at h
  have h2:=hc.2;unfold qo at h2;rw[h] at h2;exact h2
 .rw[if_neg hc] at h;cases h
theorem BE{id code al:Int}{name:ByteArray}{rs:List Rc.Rec}(h:bc id code al name rs=0):gZ al=true:=by
 unfold bc at h;split at h
 .omega
 .split at h
  .omega
  .split at h
   .rename_i h1;exact absurd h h1
   .split at h
    .omega
    .rename_i h1;simpa using h1
theorem oB{q:Qu}(h:iY q=0):fO q=0/\bQ (kK q)=0:=by
 unfold iY at h;by_cases h2:fO q=0
 .rw[if_pos h2] at h
  refine⟨h2,?_⟩;have h3:iY q=0:=by unfold iY;rw[if_pos h2];exact h
  unfold kK;rw[if_pos h3];exact h
 .rw[if_neg h2] at h;exact absurd h h2
theorem kt:bQ ⟨#[]⟩=0:=by kernel_rfl
theorem FN{s:Sv.ba}(h:s.e=0):within s.addr 0 4294967295=true/\within s.port 0 65535=true/\s.cF.size<=30:=by
 unfold Sv.ba.e at h;split at h
 .rename_i h1
  split at h
  .rename_i h2
   simp only[Bool.and_eq_true] at h1 h2;refine⟨h2.1,h2.2.1,?_⟩;have h3:=h1.2.1;unfold aA at h3;simp only[Bool.and_eq_true,decide_eq_true_eq] at h3;exact h3.1.2
  .omega
 .omega
theorem w0:within 0 0 2147483647=true:=by decide
theorem Mg{name here:ByteArray}{t:Int}{s:Sv.ba}(hn:bQ name=0)(ht:gZ t=true)(hs:s.e=0)(he:gR here t s=0):bC (iM name here t s)=0:=by
 obtain⟨h1,h2,h3⟩:=FN hs;have Af:t=1\/t=16\/t=33:=by unfold gZ at ht;simpa[or_assoc] using ht
 have e0:(⟨#[]⟩:ByteArray).size=0:=rfl;rcases Af with rfl|rfl|rfl
 .have e:iM name here 1 s=⟨name,1,0,s.addr,⟨#[]⟩,0,⟨#[]⟩⟩:=rfl
  rw[e];unfold bC;simp only[hn,qS,h1,w0,kt,e0];simp[gZ,within]
 .have e:iM name here 16 s=⟨name,16,0,0,s.cF,0,⟨#[]⟩⟩:=rfl
  rw[e];have h4:¬ 200<s.cF.size:=by omega
  unfold bC;simp only[hn,qS,w0,kt,e0,h4];simp[gZ,within]
 .have e:iM name here 33 s=⟨name,33,0,0,⟨#[]⟩,s.port,kK (qN s.node here)⟩:=rfl
  have he2:iY (qN s.node here)=0:=he;have h5:=(oB he2).2;rw[e];unfold bC;simp only[hn,qS,w0,h2,h5,e0];simp[gZ,within]
theorem Mh{ms:List Mem}{t:ByteArray}(hc:aM ms=0):within (dZ ms t).addr 0 4294967295=true:=by
 cases h:cM ms t with
 |none=>rw[vz h];decide
 |some m=>
  rw[vy h];have h2:m.e=0:=qu (aI hc).2.2 m (od h).1;unfold Mem.e gX at h2;split at h2
  .split at h2
   .split at h2
    .split at h2
     .rename_i h5;exact h5
     .omega
    .omega
   .omega
  .omega
theorem Wa{name:ByteArray}{ad:Int}(hn:bQ name=0)(ha:within ad 0 4294967295=true):bC ⟨name,1,0,ad,⟨#[]⟩,0,⟨#[]⟩⟩=0:=by
 have e0:(⟨#[]⟩:ByteArray).size=0:=rfl;unfold bC;simp only[hn,qS,ha,w0,kt,e0];simp[gZ,within]
theorem tA{here:ByteArray}{t:Int}:∀{L:List Sv.ba},gS here t L=0->∀s∈L,gR here t s=0
 |[],_,s,hs=>by simp at hs
 |x::r,h,s,hs=>by
  rw[gS] at h;by_cases h2:gR here t x=0
  .rw[if_pos h2] at h
   rcases Jr.1 hs with rfl|hs
   .exact h2
   .exact tA h s hs
  .rw[if_neg h2] at h;exact absurd h h2
theorem P5{q:Qu}{t:Int}{here:ByteArray}{sv:List Sv.ba}{ms:List Mem}{p:Pl}{wh:List Wh.cd}(hk:tj here sv ms p wh)(ht:gZ t=true)(he:(oo q t here sv ms p wh).e=0):∀r∈(oo q t here sv ms p wh).rs,bC r=0:=by
 unfold oo at he ⊢;by_cases h1:iY q=0
 .rw[if_pos h1] at he ⊢
  have hn:=(oB h1).2;by_cases h2:q.ai.size≠0/\q.ai≠here
  .rw[if_pos h2];simp
  .rw[if_neg h2] at he ⊢
   by_cases h3:q.node.size≠0
   .rw[if_pos h3] at he ⊢
    unfold jO;split
    .split
     .intro r hr
      simp at hr;subst hr;exact Wa hn (Mh hk.ms)
     .simp
    .simp
   .rw[if_neg h3] at he ⊢
    unfold kj at he ⊢;by_cases h4:Sv.cy sv q.service ⟨#[]⟩=[]
    .rw[if_pos h4];simp
    .rw[if_neg h4] at he ⊢
     by_cases h5:gS here t (iL p wh ms (Sv.cy sv q.service q.tag))=0
     .rw[if_pos h5]
      intro r hr;obtain⟨s,hs,rfl⟩:=Oo.1 hr;have h6:=(List.mem_filter.1 (Lv hs).1).1;exact Mg hn ht (Sv.dw sv (Sv.aI hk.sv).2.2 s h6) (tA h5 s hs)
     .rw[if_neg h5] at he;exact absurd he h5
 .rw[if_neg h1] at he;exact absurd he h1
theorem P6(q:Qu)(t:Int)(here:ByteArray)(sv:List Sv.ba)(ms:List Mem)(p:Pl)(wh:List Wh.cd):(oo q t here sv ms p wh).rs.length<=20:=by
 unfold oo;split
 .split
  .simp
  .split
   .unfold jO;(repeat' split)<;>simp
   .unfold kj
    split
    .simp
    .split
     .rw[Ov];exact yK _ _ _ _
     .simp
 .simp
theorem Mi(q:Qu)(t:Int)(here:ByteArray)(sv:List Sv.ba)(ms:List Mem)(p:Pl)(wh:List Wh.cd):0<=(oo q t here sv ms p wh).code/\(oo q t here sv ms p wh).code<=15:=by
 unfold oo;split
 .split
  .simp
  .split
   .unfold jO;(repeat' split)<;>simp
   .unfold kj;(repeat' split)<;>simp
 .simp
structure P7(r:Rp):Prop where
 code:within r.code 0 15=true
 few:r.rs.length<=20
 name:bQ r.R=0
 al:gZ r.al=true
 rs:∀x∈r.rs,bC x=0
theorem tB:∀{rs:List Rc.Rec},(∀r∈rs,bC r=0)->fM rs=0
 |[],_=>rfl
 |x::r,h=>by rw[fM,if_pos (h x (by simp))];exact tB λy hy=>h y (by simp[hy])
theorem P8(name:ByteArray)(al:Int)(here:ByteArray)(sv:List Sv.ba)(ms:List Mem)(p:Pl)(wh:List Wh.cd):within (lN name al here sv ms p wh) 0 15=true:=by
 have h:=Mi (cZ name) al here sv ms p wh;unfold lN;split
 .split
  .unfold within;simp;omega
  .decide
 .split<;>decide
theorem P9{s here:ByteArray}{sv:List Sv.ba}{ms:List Mem}{p:Pl}{wh:List Wh.cd}(hk:tj here sv ms p wh):P7 (fZ s here sv ms p wh):=by
 have Cp:P7 ⟨1,1,⟨#[]⟩,[]⟩:=⟨by decide,by simp,kt,by decide,by simp⟩;unfold fZ;cases h:zi s with
 |none=>exact Cp
 |some M=>
  simp only;by_cases h0:M.rs.length=0
  .rw[if_pos h0]
   have hc:=zl h;have ht:=BE hc;refine⟨P8 _ _ _ _ _ _ _,?_,(cL hc).2.1,ht,?_⟩
   .show(jC M.R M.al here sv ms p wh).length<=20
    unfold jC;split
    .split
     .exact P6 _ _ _ _ _ _ _
     .simp
    .simp
   .show ∀x∈jC M.R M.al here sv ms p wh,bC x=0
    unfold jC;split
    .split
     .rename_i h1 h2
      exact P5 hk ht h2
     .simp
    .simp
  .rw[if_neg h0];exact Cp
theorem Wb{id:Int}{r:Rp}(h:P7 r)(hi:0<=id/\id<=65535):bc id r.code r.al r.R r.rs=0:=by
 have h1:within id 0 65535=true:=by unfold within;simp;omega
 unfold bc;rw[h1,h.code];simp only[Bool.and_self,Bool.true_eq_false,if_false];rw[if_neg (by have:=h.few;omega),if_neg (by simpa using h.name),if_neg (by rw[h.al];simp)];exact tB h.rs
theorem zn(id code al:Int)(ay cut:Bool){name:ByteArray}(h:bQ name=0)(n:Nat):(o9 id code al ay cut name n).length<=300:=by
 have h1:=mg h;rw[gL,Lib.byteCells_length] at h1;unfold o9;simp only[List.length_append,bA];omega
theorem vO{f:Nat->List UInt8}{size:Int}(h:((f 0).length:Int)<=size):∀n,(pj f size n).isSome=true
 |0=>by rw[pj,if_pos h];rfl
 |k+1=>by
  rw[pj];split
  .rfl
  .exact vO h k
theorem Ra{id:Int}{r:Rp}(h:P7 r)(hi:0<=id/\id<=65535):pt id r.code r.al true false r.R r.rs 512=0:=by
 unfold pt;rw[if_neg (by decide),if_pos (Wb h hi),if_pos];refine vO ?_ _;have h1:=zn id r.code r.al true (false||decide (0<r.rs.length)) h.name 0;unfold wD dI;simp only[List.take_zero,List.length_nil,List.flatMap_nil,List.append_nil];omega
def BF(s here:ByteArray)(sv:List Sv.ba)(ms:List Mem)(p:Pl)(wh:List Wh.cd):ByteArray:=qU (mS s) (fZ s here sv ms p wh).code (fZ s here sv ms p wh).al true false (fZ s here sv ms p wh).R (fZ s here sv ms p wh).rs 512
theorem xf(here:ByteArray)(ps pm pw:Option Addr)(ns cs nm cm nw cw:Nat)(px py pz ph pq:Int)(name:ByteArray)(al:Int)(sv:List Sv.ba)(ms:List Mem)(wh:List Wh.cd)(w:World)(nI:ML w)(hn:name.size<=Ii)(hk:tj here sv ms ⟨px,py,pz,ph,pq⟩ wh)(hs:Sv.Sl w (U ps ns cs) sv)(hm:Sl w (U pm nm cm) ms)(hw:Wh.Sl w (U pw nw cw) wh) :
 Calls be 190 #[Ip (eH here (U ps ns cs) (U pm nm cm) px py pz ph pq (U pw nw cw)),Ip #[I name,O J al]] w λe w'=>∃v,e=sh (Il #[v,O J (lN name al here sv ms ⟨px,py,pz,ph,pq⟩ wh)])/\Rc.Own w.heap.size w' v (jC name al here sv ms ⟨px,py,pz,ph,pq⟩ wh)/\Below w.heap.size w w':=by
 have HS:Hid (Sv.Sl w (U ps ns cs) sv):=hs;have HM:Hid (Sl w (U pm nm cm) ms):=hm;have HW:Hid (Wh.Sl w (U pw nw cw) wh):=hw;have HP:Hid (∀W,ML W->Calls be 22 #[I name] W λe w'=>e=sh (Il #[Ip #[I (cZ name).service,I (cZ name).tag,I (cZ name).node,I (cZ name).ai],O J (eI name)])/\Below W.heap.size W w'):=λW h=>pQ name W h hn;have hR:=λ(W:World) (a1:Sv.Sl W (U ps ns cs) sv) (a2:Sl W (U pm nm cm) ms) (a3:Wh.Sl W (U pw nw cw) wh)=>wY here ps pm pw ns cs nm cm nw cw px py pz ph pq (cZ name) al sv ms wh W (Dc name) hk a1 a2 a3;have HR:Hid _:=hR;have Wc:Hid (eI name=8->jC name al here sv ms ⟨px,py,pz,ph,pq⟩ wh=[]/\lN name al here sv ms ⟨px,py,pz,ph,pq⟩ wh=4):=λh=>by unfold jC lN;rw[if_neg (by omega),if_neg (by omega),if_pos h];exact⟨rfl,rfl⟩
 have wX:Hid (eI name≠8->eI name≠0->jC name al here sv ms ⟨px,py,pz,ph,pq⟩ wh=[]/\lN name al here sv ms ⟨px,py,pz,ph,pq⟩ wh=3):=λh h2=>by unfold jC lN;rw[if_neg h2,if_neg h2,if_neg h];exact⟨rfl,rfl⟩
 have tl:Hid (eI name=0->(oo (cZ name) al here sv ms ⟨px,py,pz,ph,pq⟩ wh).e≠0->jC name al here sv ms ⟨px,py,pz,ph,pq⟩ wh=[]/\lN name al here sv ms ⟨px,py,pz,ph,pq⟩ wh=2):=λh h2=>by unfold jC lN;rw[if_pos h,if_pos h,if_neg h2,if_neg h2];exact⟨rfl,rfl⟩
 have SJ:Hid (eI name=0->(oo (cZ name) al here sv ms ⟨px,py,pz,ph,pq⟩ wh).e=0->jC name al here sv ms ⟨px,py,pz,ph,pq⟩ wh=(oo (cZ name) al here sv ms ⟨px,py,pz,ph,pq⟩ wh).rs/\lN name al here sv ms ⟨px,py,pz,ph,pq⟩ wh=(oo (cZ name) al here sv ms ⟨px,py,pz,ph,pq⟩ wh).code):=λh h2=>by unfold jC lN;rw[if_pos h,if_pos h,if_pos h2,if_pos h2];exact⟨rfl,rfl⟩
 have Nj:Hid (ML w):=nI;clear hs hm hw hR hk nI;generalize jC name al here sv ms ⟨px,py,pz,ph,pq⟩ wh=AL at *;generalize lN name al here sv ms ⟨px,py,pz,ph,pq⟩ wh=AC at *;generalize oo (cZ name) al here sv ms ⟨px,py,pz,ph,pq⟩ wh=A at *;generalize eI name=PE at *;generalize cZ name=q at *;obtain⟨qs,qt,qn,qc⟩:=q;simp only at *;go_enter Tryz.func190,Tryz.ntmps190;go_wp2_with fail;obtain⟨W,hW⟩:∃W,W=(w.alloc (AI (eH here (U ps ns cs) (U pm nm cm) px py pz ph pq (U pw nw cw)) 137)).alloc (AI #[I name,O J al] 40):=⟨_,rfl⟩;rw[<- hW];have eG:Below w.heap.size w W:=by rw[hW];exact((Ia _ _).alloc (By _) _).alloc (by simp) _
 have XB:W.heap[w.heap.size]?=Z (AI (eH here (U ps ns cs) (U pm nm cm) px py pz ph pq (U pw nw cw)) 137 (0,0)):=by rw[hW,It _ _ _ (by simp)];exact Ie w _
 have rA:W.heap[w.heap.size+1]?=Z (AI #[I name,O J al] 40 (0,0)):=by
  rw[hW];have h:=Ie (w.alloc (AI (eH here (U ps ns cs) (U pm nm cm) px py pz ph pq (U pw nw cw)) 137)) (AI #[I name,O J al] 40);simpa using h
 have pY:w.heap.size+2<=W.heap.size:=by rw[hW];simp
 clear hW;refine(HP.out W (Nj.out.below eG)).mono ?_;rintro e w1 ⟨rfl,an⟩;have gi:=an.size;have aK:Hid (Below w.heap.size w w1):=eG.trans (an.mono (by omega));have k0:w1.heap[w.heap.size]?=_:=(an.block _ (by omega)).trans XB;have k1:w1.heap[w.heap.size+1]?=_:=(an.block _ (by omega)).trans rA;have kI:∀ob,(w1.alloc ob).heap[w.heap.size]?=Z (AI (eH here (U ps ns cs) (U pm nm cm) px py pz ph pq (U pw nw cw)) 137 (0,0)):=λob=>by rw[It _ _ _ (by omega)];exact k0
 have lY:∀ob,(w1.alloc ob).heap[w.heap.size+1]?=Z (AI #[I name,O J al] 40 (0,0)):=λob=>by rw[It _ _ _ (by omega)];exact k1
 have d0:∀ob,(w1.alloc ob).cell? ⟨w.heap.size,0,Y⟩=Z (I here):=λob=>af (kI ob) 0;have d1:∀ob,(w1.alloc ob).cell? ⟨w.heap.size,1,Y⟩=Z (U ps ns cs):=λob=>af (kI ob) 1;have d2:∀ob,(w1.alloc ob).cell? ⟨w.heap.size,2,Y⟩=Z (U pm nm cm):=λob=>af (kI ob) 2;have d3:∀ob,(w1.alloc ob).cell? ⟨w.heap.size,3,Y⟩=Z (O J px):=λob=>af (kI ob) 3;have d4:∀ob,(w1.alloc ob).cell? ⟨w.heap.size,4,Y⟩=Z (O J py):=λob=>af (kI ob) 4;have d5:∀ob,(w1.alloc ob).cell? ⟨w.heap.size,5,Y⟩=Z (O J pz):=λob=>af (kI ob) 5;have d6:∀ob,(w1.alloc ob).cell? ⟨w.heap.size,6,Y⟩=Z (O J ph):=λob=>af (kI ob) 6;have d7:∀ob,(w1.alloc ob).cell? ⟨w.heap.size,7,Y⟩=Z (O J pq):=λob=>af (kI ob) 7;have d8:∀ob,(w1.alloc ob).cell? ⟨w.heap.size,8,Y⟩=Z (U pw nw cw):=λob=>af (kI ob) 8;have q0:∀ob,(w1.alloc ob).cell? ⟨w.heap.size+1,0,Y⟩=Z (I name):=λob=>af (lY ob) 0;have q1:∀ob,(w1.alloc ob).cell? ⟨w.heap.size+1,1,Y⟩=Z (O J al):=λob=>af (lY ob) 1;have nH:Hid (∀ob,Below w.heap.size w (w1.alloc ob)):=λob=>aK.out.alloc (by omega) ob;clear kI lY k0 k1 XB rA eG an;by_cases h8:PE=8
 .obtain⟨r1,r2⟩:=Wc.out h8
  have H1:Hid (AL=[]):=r1;have H2:Hid (AC=4):=r2;clear r1 r2 Wc wX tl SJ;subst h8;go_wp2_with fail;go_ret2;exact⟨U Y 0 0,by rw[H2.out];rfl,by rw[H1.out];exact Rc.bz _ _,nH.out _⟩
 .have g8:(PE==8)=false:=by simpa using h8
  by_cases h0:PE=0
  .have rh:Hid _:=tl.out h0
   have Wd:Hid _:=SJ.out h0;clear Wc wX tl SJ g8 h8;subst h0;go_wp2_with fail;refine Calls.mono (HR.out _ (HS.out.below (nH.out _)) (HM.out.below (nH.out _)) (HW.out.below (nH.out _))) ?_;rintro e w2 ⟨v,rfl,ho,aD⟩;have bD:Hid (Below w.heap.size w w2):=(nH.out _).trans (aD.mono (by simp<;>omega));have jF:Hid (Rc.Own w.heap.size w2 v A.rs):=ho.mono (by simp<;>omega);clear ho aD;obtain⟨ars,acd,ae⟩:=A;simp only at *;by_cases he:ae=0
   .obtain⟨r1,r2⟩:=Wd.out he
    have H1:Hid (AL=ars):=r1;have H2:Hid (AC=acd):=r2;clear r1 r2 rh Wd;subst he;go_wp2_with fail;go_ret2;exact⟨v,by rw[H2.out];rfl,by rw[H1.out];exact jF.out,bD.out⟩
   .obtain⟨r1,r2⟩:=rh.out he
    have H1:Hid (AL=[]):=r1;have H2:Hid (AC=2):=r2;have gJ:(ae !=0)=true:=by simpa using he
    clear r1 r2 rh Wd;go_wp2_with fail;go_ret2;exact⟨U Y 0 0,by rw[H2.out];rfl,by rw[H1.out];exact Rc.bz _ _,bD.out⟩
  .obtain⟨r1,r2⟩:=wX.out h8 h0
   have H1:Hid (AL=[]):=r1;have H2:Hid (AC=3):=r2;have g0:(PE !=0)=true:=by simpa using h0
   clear r1 r2 Wc wX tl SJ;go_wp2_with fail;go_ret2;exact⟨U Y 0 0,by rw[H2.out];rfl,by rw[H1.out];exact Rc.bz _ _,nH.out _⟩
theorem xh(here:ByteArray)(ps pm pw:Option Addr)(ns cs nm cm nw cw:Nat)(px py pz ph pq:Int)(s:ByteArray)(sv:List Sv.ba)(ms:List Mem)(wh:List Wh.cd)(w:World)(nI:ML w)(hk:tj here sv ms ⟨px,py,pz,ph,pq⟩ wh)(hs:Sv.Sl w (U ps ns cs) sv)(hm:Sl w (U pm nm cm) ms)(hw:Wh.Sl w (U pw nw cw) wh) :
 Calls be 136 #[Ip (eH here (U ps ns cs) (U pm nm cm) px py pz ph pq (U pw nw cw)),I s] w λe w'=>∃v,e=sh (Ip #[O J 0,AT false,AT false,O J (fZ s here sv ms ⟨px,py,pz,ph,pq⟩ wh).code,I (fZ s here sv ms ⟨px,py,pz,ph,pq⟩ wh).R,O J (fZ s here sv ms ⟨px,py,pz,ph,pq⟩ wh).al,v])/\Rc.Own w.heap.size w' v (fZ s here sv ms ⟨px,py,pz,ph,pq⟩ wh).rs/\Below w.heap.size w w':=by
 have HS:Hid (Sv.Sl w (U ps ns cs) sv):=hs;have HM:Hid (Sl w (U pm nm cm) ms):=hm;have HW:Hid (Wh.Sl w (U pw nw cw) wh):=hw;have HRD:Hid (∀W,Calls be 19 #[I s] W (RdP s W)):=λW=>VZ s W;have hAT:=λ(name:ByteArray) (al:Int) (W:World) (h:ML W) (h2:name.size<=Ii) (a1:Sv.Sl W (U ps ns cs) sv) (a2:Sl W (U pm nm cm) ms) (a3:Wh.Sl W (U pw nw cw) wh)=>xf here ps pm pw ns cs nm cm nw cw px py pz ph pq name al sv ms wh W h h2 hk a1 a2 a3;have hY:Hid _:=hAT;have Nj:Hid (ML w):=nI;have HN:Hid (zi s=Y->fZ s here sv ms ⟨px,py,pz,ph,pq⟩ wh=⟨1,1,⟨#[]⟩,[]⟩):=λh=>by unfold fZ;rw[h]
 have HF:Hid (∀M,zi s=Z M->M.rs.length≠0->fZ s here sv ms ⟨px,py,pz,ph,pq⟩ wh=⟨1,1,⟨#[]⟩,[]⟩):=λM h h2=>by unfold fZ;rw[h];simp only;rw[if_neg h2]
 have HY:Hid (∀M,zi s=Z M->M.rs.length=0->fZ s here sv ms ⟨px,py,pz,ph,pq⟩ wh=⟨lN M.R M.al here sv ms ⟨px,py,pz,ph,pq⟩ wh,M.al,M.R,jC M.R M.al here sv ms ⟨px,py,pz,ph,pq⟩ wh⟩):=λM h h2=>by unfold fZ;rw[h];simp only;rw[if_pos h2]
 have HX:Hid (∀M,zi s=Z M->FI s=0/\M.R.size<=Ii):=λM h=>by
  have hc:=zl h;refine⟨?_,by have:=(gy (cL hc).2.1).1;unfold Ii;omega⟩;unfold zi at h;by_cases h2:s.size<=512/\qo s=0
  .unfold FI;rw[if_pos h2.1,if_pos h2.2]
  .rw[if_neg h2] at h;cases h
 have HXN:Hid (zi s=Y->FI s≠0):=λh=>by
  unfold FI;by_cases h1:s.size<=512
  .rw[if_pos h1]
   by_cases h2:qo s=0
   .exfalso
    unfold zi at h;rw[if_pos ⟨h1,h2⟩] at h;unfold qo at h2;rw[h] at h2;exact absurd h2 (by decide)
   .rw[if_neg h2];decide
  .rw[if_neg h1];decide
 clear hs hm hw hAT hk nI;generalize fZ s here sv ms ⟨px,py,pz,ph,pq⟩ wh=SP at *;go_enter Tryz.func136,Tryz.ntmps136;go_wp2_with fail;obtain⟨W,hW⟩:∃W,W=(w.alloc (AI (eH here (U ps ns cs) (U pm nm cm) px py pz ph pq (U pw nw cw)) 137)).alloc (AI #[O J 0,AT false,AT false,O J 0,I ⟨#[]⟩,O J 0,U Y 0 0] 43):=⟨_,rfl⟩;rw[<- hW];have eG:Below w.heap.size w W:=by rw[hW];exact((Ia _ _).alloc (By _) _).alloc (by simp) _
 have yO:Hid (W.heap[w.heap.size]?=Z (AI (eH here (U ps ns cs) (U pm nm cm) px py pz ph pq (U pw nw cw)) 137 (0,0))):=by rw[hW,It _ _ _ (by simp)];exact Ie w _
 have rA:W.heap[w.heap.size+1]?=Z (AI #[O J 0,AT false,AT false,O J 0,I ⟨#[]⟩,O J 0,U Y 0 0] 43 (0,0)):=by
  rw[hW];have h:=Ie (w.alloc (AI (eH here (U ps ns cs) (U pm nm cm) px py pz ph pq (U pw nw cw)) 137)) (AI #[O J 0,AT false,AT false,O J 0,I ⟨#[]⟩,O J 0,U Y 0 0] 43);simpa using h
 have ji:Hid _:=rA;have pY:w.heap.size+2<=W.heap.size:=by rw[hW];simp
 clear hW rA;refine Calls.mono (HRD.out W) ?_;intro e w1 GP;obtain⟨i,a,c,o,r,y,p,l,k,rfl,hmv,an⟩:=V5 GP;have gi:=an.size;have aK:Hid (Below w.heap.size w w1):=eG.trans (an.mono (by omega));have kI:∀ob,(w1.alloc ob).heap[w.heap.size]?=Z (AI (eH here (U ps ns cs) (U pm nm cm) px py pz ph pq (U pw nw cw)) 137 (0,0)):=λob=>by rw[It _ _ _ (by omega),an.block _ (by omega)];exact yO.out
 have lY:∀ob,(w1.alloc ob).heap[w.heap.size+1]?=Z (AI #[O J 0,AT false,AT false,O J 0,I ⟨#[]⟩,O J 0,U Y 0 0] 43 (0,0)):=λob=>by rw[It _ _ _ (by omega),an.block _ (by omega)];exact ji.out
 have HD0:Hid _:=kI;have iR:Hid _:=lY;have d0:∀ob,(w1.alloc ob).cell? ⟨w.heap.size,0,Y⟩=Z (I here):=λob=>af (kI ob) 0;have d1:∀ob,(w1.alloc ob).cell? ⟨w.heap.size,1,Y⟩=Z (U ps ns cs):=λob=>af (kI ob) 1;have d2:∀ob,(w1.alloc ob).cell? ⟨w.heap.size,2,Y⟩=Z (U pm nm cm):=λob=>af (kI ob) 2;have d3:∀ob,(w1.alloc ob).cell? ⟨w.heap.size,3,Y⟩=Z (O J px):=λob=>af (kI ob) 3;have d4:∀ob,(w1.alloc ob).cell? ⟨w.heap.size,4,Y⟩=Z (O J py):=λob=>af (kI ob) 4;have d5:∀ob,(w1.alloc ob).cell? ⟨w.heap.size,5,Y⟩=Z (O J pz):=λob=>af (kI ob) 5;have d6:∀ob,(w1.alloc ob).cell? ⟨w.heap.size,6,Y⟩=Z (O J ph):=λob=>af (kI ob) 6;have d7:∀ob,(w1.alloc ob).cell? ⟨w.heap.size,7,Y⟩=Z (O J pq):=λob=>af (kI ob) 7;have d8:∀ob,(w1.alloc ob).cell? ⟨w.heap.size,8,Y⟩=Z (U pw nw cw):=λob=>af (kI ob) 8;have z0:∀ob,(w1.alloc ob).cell? ⟨w.heap.size+1,0,Y⟩=Z (O J 0):=λob=>af (lY ob) 0;have z1:∀ob,(w1.alloc ob).cell? ⟨w.heap.size+1,1,Y⟩=Z (AT false):=λob=>af (lY ob) 1;have z2:∀ob,(w1.alloc ob).cell? ⟨w.heap.size+1,2,Y⟩=Z (AT false):=λob=>af (lY ob) 2;have z3:∀ob,(w1.alloc ob).cell? ⟨w.heap.size+1,3,Y⟩=Z (O J 0):=λob=>af (lY ob) 3;have z4:∀ob,(w1.alloc ob).cell? ⟨w.heap.size+1,4,Y⟩=Z (I ⟨#[]⟩):=λob=>af (lY ob) 4;have z5:∀ob,(w1.alloc ob).cell? ⟨w.heap.size+1,5,Y⟩=Z (O J 0):=λob=>af (lY ob) 5;have z6:∀ob,(w1.alloc ob).cell? ⟨w.heap.size+1,6,Y⟩=Z (U Y 0 0):=λob=>af (lY ob) 6;have zz0:∀ob,(w1.alloc ob).frozen? ⟨w.heap.size+1,0,Y⟩=false:=λob=>by simp[Ih,lY ob]
 have zz1:∀ob,(w1.alloc ob).frozen? ⟨w.heap.size+1,1,Y⟩=false:=λob=>by simp[Ih,lY ob]
 have zz2:∀ob,(w1.alloc ob).frozen? ⟨w.heap.size+1,2,Y⟩=false:=λob=>by simp[Ih,lY ob]
 have zz3:∀ob,(w1.alloc ob).frozen? ⟨w.heap.size+1,3,Y⟩=false:=λob=>by simp[Ih,lY ob]
 have zz4:∀ob,(w1.alloc ob).frozen? ⟨w.heap.size+1,4,Y⟩=false:=λob=>by simp[Ih,lY ob]
 have zz5:∀ob,(w1.alloc ob).frozen? ⟨w.heap.size+1,5,Y⟩=false:=λob=>by simp[Ih,lY ob]
 have zz6:∀ob,(w1.alloc ob).frozen? ⟨w.heap.size+1,6,Y⟩=false:=λob=>by simp[Ih,lY ob]
 have nH:Hid (∀ob,Below w.heap.size w (w1.alloc ob)):=λob=>aK.out.alloc (by omega) ob;clear kI lY eG an GP HRD;have aa3:(FI s≠0/\SP=⟨1,1,⟨#[]⟩,[]⟩)\/(FI s=0/\0<l/\SP=⟨1,1,⟨#[]⟩,[]⟩)\/(FI s=0/\l=0/\SP=⟨lN r y here sv ms ⟨px,py,pz,ph,pq⟩ wh,y,r,jC r y here sv ms ⟨px,py,pz,ph,pq⟩ wh⟩/\r.size<=Ii):=by
  have hv:=hmv.out;cases h:zi s with
  |none=>exact .inl ⟨HXN.out h,HN.out h⟩
  |some M=>
   rw[h] at hv;obtain⟨v,PL,_,hx⟩:=hv;have hl:l=M.rs.length/\r=M.R/\y=M.al:=by
    obtain⟨_,_,he,_,_⟩:=PL;simp only[he,Array.mk.injEq,List.cons.injEq,Value.int.injEq,Value.string.injEq,Value.slice.injEq,true_and,and_true] at hx;obtain⟨_,_,_,_,h5,h6,_,h8,_⟩:=hx;exact⟨h8,h5,h6⟩
   obtain⟨e1,e2,e3⟩:=hl;obtain⟨x1,x2⟩:=HX.out M h;by_cases h0:M.rs.length=0
   .exact .inr (.inr ⟨x1,by omega,by rw[e2,e3];exact HY.out M h h0,by rw[e2];exact x2⟩)
   .exact .inr (.inl ⟨x1,by omega,HF.out M h h0⟩)
 clear hmv HN HF HY HX HXN;generalize FI s=X at *;rcases aa3 with⟨h1,h2⟩|⟨h1,h3,h2⟩|⟨h1,h3,h2,h4⟩
 .have HP:Hid (SP=⟨1,1,⟨#[]⟩,[]⟩):=h2
  have GN:(X !=0)=true:=by simpa using h1
  clear h2;go_wp2_with fail;refine Iy (v:=Ip #[O J 0,AT false,AT false,O J 1,I ⟨#[]⟩,O J 1,U Y 0 0]) ?_ rfl ⟨U Y 0 0,by rw[HP.out],by rw[HP.out];exact Rc.bz _ _,?_⟩
  .simp[results,Tryz.results136,go_sem,z0,z1,z2,z3,z4,z5,z6]
  .exact((((((((nH.out _).setCell (p:=⟨w.heap.size+1,0,Y⟩) (by simp<;>omega) _).setCell (p:=⟨w.heap.size+1,1,Y⟩) (by simp<;>omega) _).setCell (p:=⟨w.heap.size+1,2,Y⟩) (by simp<;>omega) _).setCell (p:=⟨w.heap.size+1,3,Y⟩) (by simp<;>omega) _).setCell (p:=⟨w.heap.size+1,4,Y⟩) (by simp<;>omega) _).setCell (p:=⟨w.heap.size+1,5,Y⟩) (by simp<;>omega) _).setCell (p:=⟨w.heap.size+1,6,Y⟩) (by simp<;>omega) _)
 .have HP:Hid (SP=⟨1,1,⟨#[]⟩,[]⟩):=h2
  clear h2;subst h1;go_wp2_with fail;refine Iy (v:=Ip #[O J 0,AT false,AT false,O J 1,I ⟨#[]⟩,O J 1,U Y 0 0]) ?_ rfl ⟨U Y 0 0,by rw[HP.out],by rw[HP.out];exact Rc.bz _ _,?_⟩
  .simp[results,Tryz.results136,go_sem,z0,z1,z2,z3,z4,z5,z6]
  .exact((((((((nH.out _).setCell (p:=⟨w.heap.size+1,0,Y⟩) (by simp<;>omega) _).setCell (p:=⟨w.heap.size+1,1,Y⟩) (by simp<;>omega) _).setCell (p:=⟨w.heap.size+1,2,Y⟩) (by simp<;>omega) _).setCell (p:=⟨w.heap.size+1,3,Y⟩) (by simp<;>omega) _).setCell (p:=⟨w.heap.size+1,4,Y⟩) (by simp<;>omega) _).setCell (p:=⟨w.heap.size+1,5,Y⟩) (by simp<;>omega) _).setCell (p:=⟨w.heap.size+1,6,Y⟩) (by simp<;>omega) _)
 .have HP:Hid (SP=⟨lN r y here sv ms ⟨px,py,pz,ph,pq⟩ wh,y,r,jC r y here sv ms ⟨px,py,pz,ph,pq⟩ wh⟩):=h2
  have A9:Hid (r.size<=Ii):=h4;clear h2 h4;subst h1 h3;go_wp2_with fail;refine Calls.mono (hY.out r y _ (Nj.out.below (nH.out _)) A9.out (HS.out.below (nH.out _)) (HM.out.below (nH.out _)) (HW.out.below (nH.out _))) ?_;rintro e w2 ⟨v,rfl,ho,aD⟩;obtain⟨pv,cv,rfl⟩:=qv ho;have nP:w1.heap.size+1<=w2.heap.size:=by have:=aD.size;simpa using this
  have bD:Hid (Below w.heap.size w w2):=(nH.out _).trans (aD.mono (by simp<;>omega));have jF:Hid (Rc.Own (w1.heap.size+1) w2 (U pv (jC r y here sv ms ⟨px,py,pz,ph,pq⟩ wh).length cv) (jC r y here sv ms ⟨px,py,pz,ph,pq⟩ wh)):=by
   have h:=ho;rw[show(w1.alloc (AI #[O J i,AT a,AT c,O J o,I r,O J y,U p 0 k] 43)).heap.size=w1.heap.size+1 by simp] at h;exact h
  have k1:w2.heap[w.heap.size+1]?=Z (AI #[O J 0,AT false,AT false,O J 0,I ⟨#[]⟩,O J 0,U Y 0 0] 43 (0,0)):=(aD.block _ (by simp<;>omega)).trans (iR.out _);have k9:w2.heap[w1.heap.size]?=Z (AI #[O J i,AT a,AT c,O J o,I r,O J y,U p 0 k] 43 (0,0)):=(aD.block _ (by simp)).trans (Ie w1 _);have x0:w2.cell? ⟨w.heap.size+1,0,Y⟩=Z (O J 0):=af k1 0;have xx0:w2.frozen? ⟨w.heap.size+1,0,Y⟩=false:=by simp[Ih,k1]
  have x1:w2.cell? ⟨w.heap.size+1,1,Y⟩=Z (AT false):=af k1 1;have xx1:w2.frozen? ⟨w.heap.size+1,1,Y⟩=false:=by simp[Ih,k1]
  have x2:w2.cell? ⟨w.heap.size+1,2,Y⟩=Z (AT false):=af k1 2;have xx2:w2.frozen? ⟨w.heap.size+1,2,Y⟩=false:=by simp[Ih,k1]
  have x3:w2.cell? ⟨w.heap.size+1,3,Y⟩=Z (O J 0):=af k1 3;have xx3:w2.frozen? ⟨w.heap.size+1,3,Y⟩=false:=by simp[Ih,k1]
  have x4:w2.cell? ⟨w.heap.size+1,4,Y⟩=Z (I ⟨#[]⟩):=af k1 4;have xx4:w2.frozen? ⟨w.heap.size+1,4,Y⟩=false:=by simp[Ih,k1]
  have x5:w2.cell? ⟨w.heap.size+1,5,Y⟩=Z (O J 0):=af k1 5;have xx5:w2.frozen? ⟨w.heap.size+1,5,Y⟩=false:=by simp[Ih,k1]
  have x6:w2.cell? ⟨w.heap.size+1,6,Y⟩=Z (U Y 0 0):=af k1 6;have xx6:w2.frozen? ⟨w.heap.size+1,6,Y⟩=false:=by simp[Ih,k1]
  have m4:w2.cell? ⟨w1.heap.size,4,Y⟩=Z (I r):=af k9 4;have m5:w2.cell? ⟨w1.heap.size,5,Y⟩=Z (O J y):=af k9 5;clear k1 k9 aD ho;generalize jC r y here sv ms ⟨px,py,pz,ph,pq⟩ wh=AL at *;generalize lN r y here sv ms ⟨px,py,pz,ph,pq⟩ wh=AC at *;have CS:Hid (∀g,(Value.slice pv AL.length cv).ownBlock=Z g->g≠w.heap.size+1):=λg h=>by have:=(World.ownsRow.lt jF.out g h).1;omega
  go_wp2_with fail;refine Iy (v:=Ip #[O J 0,AT false,AT false,O J AC,I r,O J y,U pv AL.length cv]) ?_ rfl ⟨U pv AL.length cv,by rw[HP.out],?_,?_⟩
  .simp[results,Tryz.results136,go_sem,x0,x1,x2,x3,x4,x5,x6]
  .rw[HP.out]
   refine Rc.Own.mono (base:=w1.heap.size+1) ?_ (by omega);have h:=jF.out;rcases h.2 with⟨hv,h0⟩|⟨g,c',cur,hv,dN,hg,aa4⟩
   .exact⟨h.1,.inl ⟨hv,h0⟩⟩
   .refine⟨h.1,.inr ⟨g,c',cur,hv,dN,?_,aa4⟩⟩
    have bE:=CS.out g (by rw[hv];rfl);have BG:g≠w.heap.size+1:=bE;rw[IH _ _ _ g BG,IH _ _ _ g BG,IH _ _ _ g BG,IH _ _ _ g BG,IH _ _ _ g BG,IH _ _ _ g BG,IH _ _ _ g BG];exact hg
  .exact(((((((bD.out.setCell (p:=⟨w.heap.size+1,0,Y⟩) (by simp<;>omega) _).setCell (p:=⟨w.heap.size+1,1,Y⟩) (by simp<;>omega) _).setCell (p:=⟨w.heap.size+1,2,Y⟩) (by simp<;>omega) _).setCell (p:=⟨w.heap.size+1,3,Y⟩) (by simp<;>omega) _).setCell (p:=⟨w.heap.size+1,4,Y⟩) (by simp<;>omega) _).setCell (p:=⟨w.heap.size+1,5,Y⟩) (by simp<;>omega) _).setCell (p:=⟨w.heap.size+1,6,Y⟩) (by simp<;>omega) _)
theorem zo(n:Nd)(vm vr vs vg vw:Value)(w:World)(h:ix w n vm vr vs vg vw) :
 Calls be 12 #[Ip (fB n vm vr vs vg vw)] w λe w'=>e=sh (O J n.e)/\Below w.heap.size w w':=by
 obtain⟨nm,ct,ms,rs,sv,gw,⟨px,py,pz,ph,pq⟩,wh⟩:=n;obtain⟨jj,oQ,CU,mA,Ah,eX,Cq⟩:=h;simp only at jj oQ CU mA Ah eX Cq;have N3:Hid (Sl w vm ms):=jj;have A9:Hid (kB w vr rs):=oQ;have HE:Nd.e ⟨nm,ct,ms,rs,sv,gw,⟨px,py,pz,ph,pq⟩,wh⟩=if(aA nm&&aA ct)=true then
  (if aM ms=0 then(if cI rs=0 then(if Sv.aM sv=0 then(if Gw.aM gw=0 then(if bF ⟨px,py,pz,ph,pq⟩=0 then(if Wh.aM wh=0 then(match cM ms nm with
  |none=>5
  |some m=>if m.state=2\/m.state=3 then 4 else if rs.any (fN ms)=true then 4 else 0) else Wh.aM wh) else bF ⟨px,py,pz,ph,pq⟩) else Gw.aM gw) else Sv.aM sv) else cI rs) else aM ms) else 1:=by
  unfold Nd.e Nd.pE Nd.wE;simp only;by_cases h0:(aA nm&&aA ct)=true
  .simp only[if_pos h0]
   by_cases h1:aM ms=0
   .simp only[if_pos h1]
    by_cases h2:cI rs=0
    .simp only[if_pos h2]
     by_cases h3:Sv.aM sv=0
     .simp only[if_pos h3]
      by_cases h4:Gw.aM gw=0
      .simp only[if_pos h4]
       by_cases h5:bF ⟨px,py,pz,ph,pq⟩=0
       .simp only[if_pos h5];rfl
       .simp only[if_neg h5]
      .simp only[if_neg h4]
     .simp only[if_neg h3]
    .simp only[if_neg h2]
   .simp only[if_neg h1]
  .simp only[if_neg h0];rfl
 obtain⟨am,cm,rfl,_,_⟩:=jj;obtain⟨ar,cr,rfl,_,_⟩:=oQ;have Nj:Hid (aM ms=0->ms.length<=20):=λh=>(aI h).1;have HRL:Hid (cI rs=0->rs.length<=20):=λh=>(jo h).1;simp only[fB];generalize hNM:ms.length=L3 at *;have Nk:Hid (ms.length=L3):=hNM;clear hNM;generalize hNR:rs.length=PZ at *;have HNR:Hid (rs.length=PZ):=hNR;clear hNR;obtain⟨W0,eu,eN,-,eo⟩:=eC w #[I nm,I ct,U am L3 cm,U ar PZ cr,vs,vg,O J px,O J py,O J pz,O J ph,O J pq,vw] 30;have r8:w.heap.size<W0.heap.size:=by rw[eu];simp
 have gV:Hid (∀W,Below W0.heap.size W0 W->Below w.heap.size w W):=λW hW=>eN.trans (hW.mono (by omega));have HX:Hid (∀W,Below W0.heap.size W0 W->W.cell? ⟨w.heap.size,0,Y⟩=Z (I nm)/\W.cell? ⟨w.heap.size,1,Y⟩=Z (I ct)/\W.cell? ⟨w.heap.size,2,Y⟩=Z (U am L3 cm)/\W.cell? ⟨w.heap.size,3,Y⟩=Z (U ar PZ cr)/\W.cell? ⟨w.heap.size,4,Y⟩=Z vs/\W.cell? ⟨w.heap.size,5,Y⟩=Z vg/\W.cell? ⟨w.heap.size,6,Y⟩=Z (O J px)/\W.cell? ⟨w.heap.size,7,Y⟩=Z (O J py)/\W.cell? ⟨w.heap.size,8,Y⟩=Z (O J pz)/\W.cell? ⟨w.heap.size,9,Y⟩=Z (O J ph)/\W.cell? ⟨w.heap.size,10,Y⟩=Z (O J pq)/\W.cell? ⟨w.heap.size,11,Y⟩=Z vw):=λW hW=>
  have mF:=(hW.block _ r8).trans eo
  ⟨af mF 0,af mF 1,af mF 2,af mF 3,af mF 4,af mF 5,af mF 6,af mF 7,af mF 8,af mF 9,af mF 10,af mF 11⟩
 have HM:Hid (∀W,Below W0.heap.size W0 W->Calls be 34 #[U am L3 cm] W λe w'=>e=sh (O J (aM ms))/\Below W.heap.size W w'):=λW hW=>oW ms _ W (N3.out.below (gV.out W hW));have A7:Hid (∀W,Below W0.heap.size W0 W->Calls be 35 #[U ar PZ cr] W λe w'=>e=sh (O J (cI rs))/\Below W.heap.size W w'):=λW hW=>qZ rs _ W (A9.out.below (gV.out W hW));have HS:Hid (∀W,Below W0.heap.size W0 W->Calls be 36 #[vs] W λe w'=>e=sh (O J (Sv.aM sv))/\Below W.heap.size W w'):=λW hW=>Sv.fS sv vs W (CU.below (gV.out W hW));have HG:Hid (∀W,Below W0.heap.size W0 W->Calls be 37 #[vg] W λe w'=>e=sh (O J (Gw.aM gw))/\Below W.heap.size W w'):=λW hW=>Gw.fS gw vg W (mA.below (gV.out W hW));have HP:Hid (∀W,Below W0.heap.size W0 W->Calls be 38 #[Ip #[O J px,O J py,O J pz,O J ph,O J pq]] W λe w'=>e=sh (O J (bF ⟨px,py,pz,ph,pq⟩))/\Below W.heap.size W w'):=λW _=>(lE ⟨px,py,pz,ph,pq⟩ W).mono (by rintro e w' ⟨rfl,rfl⟩;exact⟨rfl,(Ia _ _).alloc (By _) _⟩);have HW:Hid (∀W,Below W0.heap.size W0 W->Calls be 39 #[vw] W λe w'=>e=sh (O J (Wh.aM wh))/\Below W.heap.size W w'):=λW hW=>Wh.fS wh vw W (Ah.below (gV.out W hW));have HMA:Hid (L3<=1000->∀(W:World) (t:ByteArray),Below W0.heap.size W0 W->Calls be 40 #[U am L3 cm,I t] W λe w'=>∃r:Int,e=sh (O J r)/\Hid (AtF ms t r)/\w'=W):=λhn W t hW=>FH ms _ t W (N3.out.below (gV.out W hW)) (by rw[Nk.out];exact hn);have aa6:Hid (∀W,Below W0.heap.size W0 W->0<ms.length->∃b off,am=Z ⟨b,off,Y⟩/\b<W.heap.size/\Row W b off ms):=λW hW hp=>by
  obtain⟨a,c,he,_,ha⟩:=N3.out.below (gV.out W hW);injection he with e1 e2 e3;subst e1;rcases ha with h|h
  .rw[h] at hp;simp at hp
  .exact h
 have GL:Hid (∀W,Below W0.heap.size W0 W->0<rs.length->∃b off,ar=Z ⟨b,off,Y⟩/\b<W.heap.size/\iX W b off rs):=λW hW hp=>by
  obtain⟨a,c,he,_,ha⟩:=A9.out.below (gV.out W hW);injection he with e1 e2 e3;subst e1;rcases ha with h|h
  .rw[h] at hp;simp at hp
  .exact h
 have dB:Hid (Below W0.heap.size W0 W0):=Ia _ _;generalize Nd.e ⟨nm,ct,ms,rs,sv,gw,⟨px,py,pz,ph,pq⟩,wh⟩=res at *;generalize aM ms=m1 at *;generalize cI rs=r1 at *;generalize Sv.aM sv=s1 at *;generalize Gw.aM gw=g1 at *;generalize bF ⟨px,py,pz,ph,pq⟩=p1 at *;generalize Wh.aM wh=wz at *;clear CU mA Ah eN eo;obtain⟨y0,y1,y2,y3,y4,y5,y6,y7,y8,y9,y10,y11⟩:=HX.out W0 dB.out;go_enter Tryz.func12,Tryz.ntmps12;rcases dX:aA nm with _|_
 .rw[dX,if_neg (by simp)] at HE
  have HR:Hid (res=1):=HE;clear HE;go_wp2_with (go_at_call 33;refine(aN _ _ eX).mono ?_;rintro e w' ⟨rfl,rfl⟩;rw[dX]);go_ret;exact⟨aj HR.out.symm,(Ia _ _).alloc (By _) _⟩
 rcases dK:aA ct with _|_
 .rw[dK,if_neg (by simp)] at HE
  have HR:Hid (res=1):=HE;clear HE;go_wp2_with (go_at_call 33;refine(aN _ _ (by first|exact eX|exact Cq)).mono ?_;rintro e w' ⟨rfl,rfl⟩;first|rw[dX]|rw[dK]);go_ret;exact⟨aj HR.out.symm,(Ia _ _).alloc (By _) _⟩
 rw[dX,dK,if_pos (by rfl)] at HE;go_wp2_with (first|(go_at_call 33;refine(aN _ _ (by first|exact eX|exact Cq)).mono ?_;rintro e w' ⟨rfl,rfl⟩;first|rw[dX]|rw[dK])|fail);rw[<- eu];refine(HM.out _ dB.out).mono ?_;rintro e w1 ⟨rfl,an⟩;have aK:Hid (Below W0.heap.size W0 w1):=dB.out.trans (an.mono dB.out.size);clear an y0 y1 y2 y3 y4 y5 y6 y7 y8 y9 y10 y11;obtain⟨y0,y1,y2,y3,y4,y5,y6,y7,y8,y9,y10,y11⟩:=HX.out w1 aK.out;by_cases mW:m1=0
 .rw[if_pos mW] at HE
  have nI:L3<=20:=Nj.out mW;subst mW;go_wp2_with fail;refine(A7.out _ aK.out).mono ?_;rintro e w2 ⟨rfl,aD⟩;have bD:Hid (Below W0.heap.size W0 w2):=aK.out.trans (aD.mono aK.out.size);clear aD y0 y1 y2 y3 y4 y5 y6 y7 y8 y9 y10 y11;obtain⟨y0,y1,y2,y3,y4,y5,y6,y7,y8,y9,y10,y11⟩:=HX.out w2 bD.out;by_cases kF:r1=0
  .rw[if_pos kF] at HE
   have hrl:PZ<=20:=HRL.out kF;subst kF;go_wp2_with fail;refine(HS.out _ bD.out).mono ?_;rintro e w3 ⟨rfl,bn⟩;have cT:Hid (Below W0.heap.size W0 w3):=bD.out.trans (bn.mono bD.out.size);clear bn y0 y1 y2 y3 y4 y5 y6 y7 y8 y9 y10 y11;obtain⟨y0,y1,y2,y3,y4,y5,y6,y7,y8,y9,y10,y11⟩:=HX.out w3 cT.out;by_cases gi:s1=0
   .rw[if_pos gi] at HE
    subst gi;go_wp2_with fail;refine(HG.out _ cT.out).mono ?_;rintro e w4 ⟨rfl,e9⟩;have fb:Hid (Below W0.heap.size W0 w4):=cT.out.trans (e9.mono cT.out.size);clear e9 y0 y1 y2 y3 y4 y5 y6 y7 y8 y9 y10 y11;obtain⟨y0,y1,y2,y3,y4,y5,y6,y7,y8,y9,y10,y11⟩:=HX.out w4 fb.out;by_cases bf:g1=0
    .rw[if_pos bf] at HE
     subst bf;go_wp2_with fail;refine(HP.out _ fb.out).mono ?_;rintro e w5 ⟨rfl,jI⟩;have ia:Hid (Below W0.heap.size W0 w5):=fb.out.trans (jI.mono fb.out.size);clear jI y0 y1 y2 y3 y4 y5 y6 y7 y8 y9 y10 y11;obtain⟨y0,y1,y2,y3,y4,y5,y6,y7,y8,y9,y10,y11⟩:=HX.out w5 ia.out;by_cases hZ:p1=0
     .rw[if_pos hZ] at HE
      subst hZ;go_wp2_with fail;refine(HW.out _ ia.out).mono ?_;rintro e w6 ⟨rfl,gK⟩;have iW:Hid (Below W0.heap.size W0 w6):=ia.out.trans (gK.mono ia.out.size);clear gK y0 y1 y2 y3 y4 y5 y6 y7 y8 y9 y10 y11;obtain⟨y0,y1,y2,y3,y4,y5,y6,y7,y8,y9,y10,y11⟩:=HX.out w6 iW.out;by_cases hwz:wz=0
      .rw[if_pos hwz] at HE
       subst hwz;go_wp2_with fail;refine(HMA.out (by omega) w6 nm iW.out).mono ?_;rintro e w7 ⟨r,rfl,hY,rfl⟩;rcases hY.out with⟨k,hk,rfl,hf⟩|⟨rfl,hf⟩
       .have HR:Hid (res=if(ms.getD k dm).state=2\/(ms.getD k dm).state=3 then 4 else if rs.any (fN ms)=true then 4 else 0):=HE.trans (by rw[hf])
        clear hf hY HE;obtain⟨b1,o1,hZ,dX,kF⟩:=aa6.out w7 iW.out (by omega);subst hZ;obtain⟨c0,c1,c2,c3,c4⟩:=kF k hk;have gj:(k:Int)<(L3:Int):=by rw[Nk.out] at hk;omega
        clear kF;generalize ms.getD k dm=mk at *;obtain⟨mn,st,lf,ad,SO⟩:=mk;simp only at c0 c1 c2 c3 c4 HR;by_cases h2:st=2
        .subst h2
         have j8:Hid (res=4):=HR.out.trans (by simp);go_wp2_with fail;go_ret;exact⟨aj j8.out.symm,gV.out _ iW.out⟩
        .by_cases h3:st=3
         .subst h3
          have j8:Hid (res=4):=HR.out.trans (by simp);go_wp2_with fail;go_ret;exact⟨aj j8.out.symm,gV.out _ iW.out⟩
         .have j8:Hid (res=if rs.any (fN ms)=true then 4 else 0):=HR.out.trans (if_neg (by omega))
          have vB:(st==2)=false:=by simpa using h2
          have Vc:(st==3)=false:=by simpa using h3
          clear h2 h3 HR;go_wp2_with fail;clear c0 c1 c2 c3 c4 y0 y1 y2 y3 y4 y5 y6 y7 y8 y9 y10 y11;go_loopw [5] (λi wr=>∃q:Nat,q<=PZ/\i=O J q/\Hid (∀j,j<q->fN ms (rs.getD j dr)=false)/\Hid (Below W0.heap.size W0 wr)) (λi _=>PZ-(intOf i).toNat)
          case atStart=>exact⟨0,IF _,rfl,λj hj=>by omega,iW⟩
          case round=>
           obtain⟨q,hq,rfl,HZ,HB⟩:=hrel;have agC:w.heap.size<wr.heap.size:=by have:=HB.out.size;omega
           obtain⟨y0,y1,y2,y3,y4,y5,y6,y7,y8,y9,y10,y11⟩:=HX.out wr HB.out;by_cases aB:q<PZ
           .obtain⟨b2,o2,ND,amC,xK⟩:=GL.out wr HB.out (by rw[HNR.out];omega)
            subst ND;obtain⟨d0,d1,d2,d3,d4,d5⟩:=xK q (by rw[HNR.out];exact aB);clear xK;have HAH:Hid (fN ms (rs.getD q dr)=match cM ms (rs.getD q dr).m.name with
             |none=>true
             |some k=>ik (rs.getD q dr).m k):=rfl
            have HY:Hid (fN ms (rs.getD q dr)=true->res=4):=λh=>by
             rw[show rs.getD q dr=rs[q]'(by rw[HNR.out];exact aB) by simp[Io,Ic (show q<rs.length by rw[HNR.out];exact aB)]] at h;exact j8.out.trans (if_pos (List.any_eq_true.2 ⟨_,IQ _,h⟩))
            have fm:Hid (fN ms (rs.getD q dr)=false->∀j,j<q+1->fN ms (rs.getD j dr)=false):=λh j hj=>by
             by_cases e:j=q
             .subst e;exact h
             .exact HZ.out j (by omega)
            generalize fN ms (rs.getD q dr)=ab at *;generalize rs.getD q dr=rk at *;obtain⟨⟨rn,rst,rlf,rad,rsv⟩,rtd⟩:=rk;simp only at d0 d1 d2 d3 d4 d5 HAH;obtain⟨W1,gA,an,-,bf⟩:=eC wr #[I rn,O J rst,O J rlf,O J rad,AT rsv] 70;have aK:Hid (Below W0.heap.size W0 W1):=HB.out.trans (an.mono HB.out.size);have HMQ:=HMA.out (by omega) W1 rn aK.out;go_wp2_with fail;rw[<- gA];refine HMQ.mono ?_;rintro e w8 ⟨r,rfl,hY,T6⟩;have hw9:=T6.symm;subst hw9;clear HMQ d0 d1 d2 d3 d4 d5 y0 y1 y2 y3 y4 y5 y6 y7 y8 y9 y10 y11;obtain⟨y0,y1,y2,y3,y4,y5,y6,y7,y8,y9,y10,y11⟩:=HX.out W1 aK.out;clear gA an HZ;rcases hY.out with⟨k2,rD,rfl,hf⟩|⟨rfl,hf⟩
            .have tl:Hid (ab=ik ⟨rn,rst,rlf,rad,rsv⟩ (ms.getD k2 dm)):=HAH.out.trans (by rw[hf])
             clear hf hY HAH;obtain⟨b3,o3,hp3,uT,hr3⟩:=aa6.out W1 aK.out (by omega);simp only[Option.some.injEq,Addr.mk.injEq] at hp3;obtain⟨rfl,rfl,_⟩:=hp3;obtain⟨c0,c1,c2,c3,c4⟩:=hr3 k2 rD;have NJ:(k2:Int)<(L3:Int):=by rw[Nk.out] at rD;omega
             clear hr3;generalize ms.getD k2 dm=mk at *;obtain⟨mn2,st2,lf2,ad2,sv3⟩:=mk;simp only at c0 c1 c2 c3 c4;have hN:∀d os,Calls be 41 #[Ip #[I rn,O J rst,O J rlf,O J rad,AT rsv],Ip #[I mn2,O J st2,O J lf2,O J ad2,AT sv3]] (Im (Ix W1 d) os) λe kE=>e=sh (AT ab)/\∃p:Regrown,kE=Im (Ix W1 p.d) p.os:=λd os=>Calls.regrown_of ((rj rn mn2 rst rlf rad rsv st2 lf2 ad2 sv3 _).mono (by rintro e w' ⟨rfl,rfl⟩;exact⟨by rw[tl.out];rfl,((Ia _ _).alloc (By _) _).alloc (by simp) _⟩));have F0:∀d os,(Im (Ix W1 d) os).cell? ⟨wr.heap.size,0,Y⟩=Z (I rn):=Iq (af bf 0);have F1:∀d os,(Im (Ix W1 d) os).cell? ⟨wr.heap.size,1,Y⟩=Z (O J rst):=Iq (af bf 1);have F2:∀d os,(Im (Ix W1 d) os).cell? ⟨wr.heap.size,2,Y⟩=Z (O J rlf):=Iq (af bf 2);have F3:∀d os,(Im (Ix W1 d) os).cell? ⟨wr.heap.size,3,Y⟩=Z (O J rad):=Iq (af bf 3);have F4:∀d os,(Im (Ix W1 d) os).cell? ⟨wr.heap.size,4,Y⟩=Z (AT rsv):=Iq (af bf 4);have G0:∀d os,(Im (Ix W1 d) os).cell? ⟨b1,o1+k2*5,Y⟩=Z (I mn2):=Iq c0;have G1:∀d os,(Im (Ix W1 d) os).cell? ⟨b1,o1+k2*5+1,Y⟩=Z (O J st2):=Iq c1;have G2:∀d os,(Im (Ix W1 d) os).cell? ⟨b1,o1+k2*5+2,Y⟩=Z (O J lf2):=Iq c2;have G3:∀d os,(Im (Ix W1 d) os).cell? ⟨b1,o1+k2*5+3,Y⟩=Z (O J ad2):=Iq c3;have G4:∀d os,(Im (Ix W1 d) os).cell? ⟨b1,o1+k2*5+4,Y⟩=Z (AT sv3):=Iq c4;have Y2:∀d os,(Im (Ix W1 d) os).cell? ⟨w.heap.size,2,Y⟩=Z (U (Z ⟨b1,o1,Y⟩) L3 cm):=Iq y2;have hk0:decide ((k2:Int)<0)=false:=by simp
             have Vs:(0:Int)<=(k2:Int):=by omega
             clear c0 c1 c2 c3 c4 y0 y1 y2 y3 y4 y5 y6 y7 y8 y9 y10 y11 bf;go_wp2_with fail;refine wp_region_quiet_below (by kernel_rfl) (by kernel_rfl) ?_;repeat(quiet_step (exact hN _ _))
             refine wpQuiet_nil ?_;intro _ hw';obtain⟨⟨dq,oN⟩,agH⟩:=hw';subst agH;have gC:Hid (Below W0.heap.size W0 (Im (Ix W1 dq) oN)):=aK.out.trans ((below_regrown W1 dq oN).mono aK.out.size);clear hN F0 F1 F2 F3 F4 G0 G1 G2 G3 G4 Y2;generalize Im (Ix W1 dq) oN=w9 at *;cases ab
             .have jM:Hid (∀j,j<q+1->fN ms (rs.getD j dr)=false):=fm.out rfl
              clear HY fm tl;go_wp2_with fail;go_roundw
              case rel=>exact⟨q+1,by omega,by go_num,jM,gC⟩
              case measure=>simp[intOf];omega
             .have rG:Hid (res=4):=HY.out rfl
              clear HY fm tl;go_wp2_with fail;go_ret;exact⟨aj rG.out.symm,gV.out _ gC.out⟩
            .have rG:Hid (res=4):=HY.out (HAH.out.trans (by rw[hf]))
             clear hf hY HAH HY fm bf;go_wp2_with fail;go_quiet (fail)
             go_wp2_with fail;go_ret;exact⟨aj rG.out.symm,gV.out _ (below_drewN aK.out _)⟩
           .have rG:Hid (res=0):=j8.out.trans (if_neg (by
             rw[List.any_eq_true];rintro⟨r,hr,h⟩;obtain⟨j,hj,rfl⟩:=List.getElem_of_mem hr;have h3:=HZ.out j (by have:=HNR.out;omega);rw[show rs.getD j dr=rs[j] by simp[Io,Ic hj],h] at h3;cases h3))
            clear HZ;go_wp2_with fail;go_ret;exact⟨aj rG.out.symm,gV.out _ HB.out⟩
       .have HR:Hid (res=5):=HE.trans (by rw[hf])
        clear hf hY HE;go_wp2_with fail;go_ret;exact⟨aj HR.out.symm,gV.out _ iW.out⟩
      .have amE:(wz !=0)=true:=by simpa using hwz
       rw[if_neg hwz] at HE;have HR:Hid (res=wz):=HE;clear hwz HE;go_wp2_with fail;go_ret;exact⟨aj HR.out.symm,gV.out _ iW.out⟩
     .have aga:(p1 !=0)=true:=by simpa using hZ
      have ai9:(p1==0)=false:=by simpa using hZ
      rw[if_neg hZ] at HE;have HR:Hid (res=p1):=HE.trans (by first|rfl|exact if_neg hZ);clear hZ HE;go_wp2_with fail;go_ret;exact⟨aj HR.out.symm,gV.out _ ia.out⟩
    .have agb:(g1 !=0)=true:=by simpa using bf
     have aja:(g1==0)=false:=by simpa using bf
     rw[if_neg bf] at HE;have HR:Hid (res=g1):=HE.trans (by first|rfl|exact if_neg bf);clear bf HE;go_wp2_with fail;go_ret;exact⟨aj HR.out.symm,gV.out _ fb.out⟩
   .have TH:(s1 !=0)=true:=by simpa using gi
    have ajb:(s1==0)=false:=by simpa using gi
    rw[if_neg gi] at HE;have HR:Hid (res=s1):=HE.trans (by first|rfl|exact if_neg gi);clear gi HE;go_wp2_with fail;go_ret;exact⟨aj HR.out.symm,gV.out _ cT.out⟩
  .have agc:(r1 !=0)=true:=by simpa using kF
   have ajc:(r1==0)=false:=by simpa using kF
   rw[if_neg kF] at HE;have HR:Hid (res=r1):=HE.trans (by first|rfl|exact if_neg kF);clear kF HE;go_wp2_with fail;go_ret;exact⟨aj HR.out.symm,gV.out _ bD.out⟩
 .have agd:(m1 !=0)=true:=by simpa using mW
  have ajd:(m1==0)=false:=by simpa using mW
  rw[if_neg mW] at HE;have HR:Hid (res=m1):=HE.trans (by first|rfl|exact if_neg mW);clear mW HE;go_wp2_with fail;go_ret;exact⟨aj HR.out.symm,gV.out _ aK.out⟩
end Go.Proofs.YtfidjlcdlakceaaGreatDoor
