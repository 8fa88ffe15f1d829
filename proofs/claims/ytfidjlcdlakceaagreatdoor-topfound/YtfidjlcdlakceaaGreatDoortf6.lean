import Derived.Test.YtfidjlcdlakceaaGreatDoortf5
import Derived.Shelf.RegionOpen
set_option maxHeartbeats 1600000
set_option maxRecDepth 100000
open Go.Value renaming string→I,int→O,pointer→If,tuple→Il,slice→U,bool→AI
open Go.IntKind renaming i64→J,wrap_i64→IK,wrap_u8→QR
open Option renaming none→Y,some→Z
open Go.Ending renaming returned→sh
open Go.Proofs.Tryz renaming prog→be,underlying9→IE,underlying127→JQ,underlying5→Js
open Go.Obj renaming cells→AT
open Go.Lib renaming bytesWorld→Of,run_convert_string_bytes→Qd,byteCells→I8,alloc_old→I9
open Go.World.Extends renaming refl→Iy
open Nat renaming le_refl→By,le_trans→Ir,lt_of_lt_of_le→Iv
open Go renaming bodyPost→Jk,maxLen→Ij,heap_alloc_new→Ie,TypeId→Jc,bodyPost_ret→Ix
open Go.World renaming cell?_setCell_other→JF,frozen?→Ig
open List renaming getD_eq_getElem?_getD→Qn,getElem?_eq_getElem→Ic,length_append→Ii,flatMap_cons→JY
open Go.RowKit.Below renaming heap_setCell→IB,refl→Ib
open Array renaming getElem?_eq_some_iff→Ia
open Go.Joins renaming block_setCell→Is
namespace Go.Proofs.YtfidjlcdlakceaaGreatDoor
open Go.RowKit
theorem FW(g a n:Nat)(t:ByteArray)(w:World)(c0:w.cell? ⟨g,0,Y⟩=Z (I t))(c1:w.cell? ⟨g,1,Y⟩=Z (O J a))(hz:w.frozen? ⟨g,1,Y⟩=false)(hs:t.size<=1000)(lW:a+n<=t.size) :
 Calls be 152 #[If (Z ⟨g,0,Y⟩),O J n] w λe w'=>e=sh (I (t.extract a (a+n)))/\∃m,w'=(w.setCell ⟨g,1,Y⟩ (O J ((a:Int)+(n:Int)))).drew.drewN m:=by
 have h1:IntKind.i64.wrap ((t.size:Int)-(a:Int))=(t.size:Int)-(a:Int):=by rw[IK];omega
 have h2:decide ((n:Int)<=(t.size:Int)-(a:Int))=true:=by simp;omega
 have h3:IntKind.i64.wrap ((a:Int)+(n:Int))=((a+n:Nat):Int):=by rw[IK];omega
 have h4:IntKind.i64.wrap (((a+n:Nat):Int)-(n:Int))=(a:Int):=by rw[IK];omega
 go_enter Tryz.func152,Tryz.ntmps152;go_wp2_with fail;go_region_held3 (λw'=>w'.cell? ⟨g,0,Y⟩=Z (I t)/\w'.cell? ⟨g,1,Y⟩=Z (O J a)) (go_keep) (first|(go_at_call 69;refine(cy _ _).mono ?_;rintro e w5 ⟨rfl,rfl⟩)|fail)
 go_wp2_with fail;have ei:(0:Int)<=(a:Int):=by omega
 have X0:(a:Int)<=((a+n:Nat):Int):=by omega
 have Gi:((a+n:Nat):Int)<=(t.size:Int):=by omega
 have hi3:((a:Int)).toNat=a:=by omega
 have hi4:(((a+n:Nat):Int)).toNat=a+n:=by omega
 go_quiet (fail)
 go_wp2_with fail;go_ret;exact⟨rfl,_,rfl⟩
theorem V5(g a:Nat)(t:ByteArray)(w:World)(c0:w.cell? ⟨g,0,Y⟩=Z (I t))(c1:w.cell? ⟨g,1,Y⟩=Z (O J a))(ha:a<t.size) :
 Calls be 153 #[If (Z ⟨g,0,Y⟩)] w λe w'=>e=sh (O .u8 (t[a].toNat:Int))/\∃m,w'=w.drew.drewN m:=by
 have h2:decide ((a:Int)<(t.size:Int))=true:=by simp;omega
 have ei:(0:Int)<=(a:Int):=by omega
 have X0:(a:Int)<(t.size:Int):=by omega
 have hi3:((a:Int)).toNat=a:=by omega
 go_enter Tryz.func153,Tryz.ntmps153;go_wp2_with fail;go_region_held3 (λw'=>w'.cell? ⟨g,0,Y⟩=Z (I t)/\w'.cell? ⟨g,1,Y⟩=Z (O J a)) (go_keep) (first|(go_at_call 69;refine(cy _ _).mono ?_;rintro e w5 ⟨rfl,rfl⟩)|fail)
 go_wp2_with fail;go_quiet (fail)
 go_wp2_with fail;go_ret;exact⟨rfl,_,rfl⟩
def ax(t:ByteArray)(a:Nat):Nat->Nat
 |0=>0
 |k+1=>ax t a k*256+(t.data[a+k]?.getD 0).toNat
theorem sV(t:ByteArray)(a:Nat):∀k,ax t a k<256^k
 |0=>by simp[ax]
 |k+1=>by
  have h:=sV t a k;have h2:=(t.data[a+k]?.getD 0).toNat_lt;simp only[ax,Nat.pow_succ];omega
theorem V6(x b:Nat)(hx:x<4294967296)(hb:b<256):bits .or J ((x:Int)*256) (wrap64 (b:Int))=((x*256+b:Nat):Int):=by
 have h1:((x:Int)*256)=((x*256:Nat):Int):=by omega
 have h2:wrap64 (b:Int)=(b:Int):=by unfold wrap64;omega
 have h3:x*256 ||| b=x*256+b:=by
  rw[show x*256=2^8*x by omega,<- Nat.two_pow_add_eq_or_of_lt (i:=8) hb]
 rw[h1,h2];show IntKind.i64.wrap (((BitVec.ofInt 64 ((x*256:Nat):Int)) ||| (BitVec.ofInt 64 (b:Int))).toNat:Int)=_;rw[BitVec.toNat_or,BitVec.ofInt_natCast,BitVec.ofInt_natCast,BitVec.toNat_ofNat,BitVec.toNat_ofNat,Nat.mod_eq_of_lt (by omega),Nat.mod_eq_of_lt (by omega),h3,IK];omega
theorem ox(w:World)(s:ByteArray):w.drew.alloc (AT (bytesRow s (grownCap w s.size 0 5)) 5 ((bytesRow s (grownCap w s.size 0 5)).size,(bytesRow s (grownCap w s.size 0 5)).size+1))=Of w 5 s:=by
 have h1:=Qd (P:=be) w 9 127 5 s (u:=.string) IE JQ Js;have h2:=run_bytes_of_string (P:=be) w 9 127 5 s IE JQ Js;rw[h1] at h2;injection h2 with _ h;exact h.symm
theorem oM(g a n:Nat)(t:ByteArray)(w:World)(c0:w.cell? ⟨g,0,Y⟩=Z (I t))(c1:w.cell? ⟨g,1,Y⟩=Z (O J a))(hz:w.frozen? ⟨g,1,Y⟩=false)(hs:t.size<=1000)(lW:a+n<=t.size)(hn:n<=4) :
 Calls be 99 #[If (Z ⟨g,0,Y⟩),O J n] w λe w'=>e=sh (O J (ax t a n))/\(w.setCell ⟨g,1,Y⟩ (O J ((a:Int)+(n:Int)))).Extends w':=by
 have HT:Hid (Calls be 152 #[If (Z ⟨g,0,Y⟩),O J n] w λe w'=>e=sh (I (t.extract a (a+n)))/\∃m,w'=(w.setCell ⟨g,1,Y⟩ (O J ((a:Int)+(n:Int)))).drew.drewN m):=FW g a n t w c0 c1 hz hs lW;have bA:(t.extract a (a+n)).size=n:=by simp;omega
 have hcv:=λw s=>Qd (P:=be) w 9 127 5 s (u:=.string) IE JQ Js;have hB:=λw j hj=>Lib.bytesWorld_cell w 5 (t.extract a (a+n)) j hj;go_enter Tryz.func99,Tryz.ntmps99;go_wp2_with fail;refine HT.out.mono ?_;rintro e w1 ⟨rfl,m,rfl⟩;go_wp2_with fail;obtain⟨W0,dK⟩:∃W0,W0=(w.setCell ⟨g,1,Y⟩ (O J ((a:Int)+(n:Int)))).drewN (1+m):=⟨_,rfl⟩;rw[<- dK];have XB:∀j,j<n->(Of W0 5 (t.extract a (a+n))).cell? ⟨W0.heap.size,j,Y⟩=Z (O .u8 ((t.extract a (a+n)).data.toList.getD j 0).toNat):=λj hj=>hB W0 j (by omega);have hX:W0.Extends (Of W0 5 (t.extract a (a+n))):=by
  rw[<- ox W0 (t.extract a (a+n))];exact(Iy W0).drew.alloc _
 have hX0:(w.setCell ⟨g,1,Y⟩ (O J ((a:Int)+(n:Int)))).Extends W0:=by
  subst dK;generalize 1+m=q;exact⟨rfl,rfl,rfl,By _,λ_ _=>rfl,λ_ _=>rfl,λ_ _=>rfl⟩
 have hXX:=hX0.trans hX;obtain⟨W1,e9⟩:∃W1,W1=Of W0 5 (t.extract a (a+n)):=⟨_,rfl⟩;have oX:W0.heap.size=w.heap.size:=by rw[dK];simp
 rw[oX] at XB;rw[<- e9] at XB hXX ⊢;clear hB hcv hX hX0 e9 dK;go_loop [5,13] (λvn vi=>∃(k:Nat) (x:Nat),vn=O J x/\vi=O J k/\k<=n/\Hid (x=ax t a k))
  (λ_ vi=>n-(intOf vi).toNat)
 case atStart=>exact⟨0,0,rfl,rfl,by omega,rfl⟩
 case round=>
  obtain⟨k,x,rfl,rfl,hk,hx⟩:=hrel;by_cases fM:k<n
  .have hc:decide ((k:Int)<(n:Int))=true:=by simp;omega
   have ej:=XB k fM;have ei:(0:Int)<=(k:Int):=by omega
   have X0:(k:Int)<(n:Int):=by omega
   have Gi:((k:Int)).toNat=k:=by omega
   have hxl:x<4294967296:=by
    have h:=sV t a k;have h3:(256:Nat)^k<=256^3:=Nat.pow_le_pow_right (by omega) (by omega);rw[<- hx.out] at h;omega
   have zL:=V6 x (t.data[a+k]?.getD 0).toNat hxl (UInt8.toNat_lt _);have hH:Hid (x*256+(t.data[a+k]?.getD 0).toNat=ax t a (k+1)):=by
    show _=_;rw[hx.out];rfl
   go_wp2_with fail;refine⟨⟨k+1,_,by simp,by simp,by omega,hH⟩,by simp[intOf];omega⟩
  .have hc:decide ((k:Int)<(n:Int))=false:=by simp;omega
   have aaj:k=n:=by omega
   have hH:Hid (x=ax t a n):=by rw[<- aaj];exact hx
   go_wp2_with fail;simp[Jk,results,Tryz.results99];exact⟨by rw[hH.out],hXX⟩
structure dR(g:Nat)(t:ByteArray)(a:Nat)(w:World):Prop where
 c0:w.cell? ⟨g,0,Y⟩=Z (I t)
 c1:w.cell? ⟨g,1,Y⟩=Z (O J a)
 hz:w.frozen? ⟨g,1,Y⟩=false
 hg:g<w.heap.size
theorem dR.move{g a b:Nat}{t:ByteArray}{w w':World}(h:dR g t a w)(hx:(w.setCell ⟨g,1,Y⟩ (O J (b:Int))).Extends w'):dR g t b w' where
 c0:=by
  refine hx.cell_of ?_;have:=h.c0;exact(JF _ _ _ _ (by simp)).trans this
 c1:=hx.cell_of (World.cell?_setCell_same _ _ _ h.c1)
 hz:=by rw[hx.frozen _ (by simp;exact h.hg)];simpa using h.hz
 hg:=by have:=hx.size;simp at this;have:=h.hg;omega
theorem LQ(g a n:Nat)(t:ByteArray)(w:World)(h:dR g t a w)(hs:t.size<=1000)(lW:a+n<=t.size)(hn:n<=4) :
 Calls be 101 #[If (Z ⟨g,0,Y⟩),O J n,O J (ax t a n)] w λe w'=>e=sh (Il #[])/\(w.setCell ⟨g,1,Y⟩ (O J ((a+n:Nat):Int))).Extends w':=by
 have HT:Hid (Calls be 99 #[If (Z ⟨g,0,Y⟩),O J n] w λe w'=>e=sh (O J (ax t a n))/\(w.setCell ⟨g,1,Y⟩ (O J ((a:Int)+(n:Int)))).Extends w'):=oM g a n t w h.c0 h.c1 h.hz hs lW hn;go_enter Tryz.func101,Tryz.ntmps101;go_wp2_with fail;refine HT.out.mono ?_;rintro e w1 ⟨rfl,hx⟩;have hX:Hid ((w.setCell ⟨g,1,Y⟩ (O J ((a+n:Nat):Int))).Extends w1):=by
  rw[Int.natCast_add];exact hx
 clear hx;go_wp2_with fail;refine(cy _ _).mono ?_;rintro e w5 ⟨rfl,rfl⟩;go_wp2_with fail;simp[Jk,results,Tryz.results101];simpa using hX.out
theorem EL(g a:Nat)(t:ByteArray)(w:World)(h:dR g t a w)(hs:t.size<=1000)(lW:a+1+ax t a 1<=t.size) :
 Calls be 155 #[If (Z ⟨g,0,Y⟩)] w λe w'=>e=sh (I (t.extract (a+1) (a+1+ax t a 1)))/\∃w1,(w.setCell ⟨g,1,Y⟩ (O J ((a+1:Nat):Int))).Extends w1/\(w1.setCell ⟨g,1,Y⟩ (O J ((a+1+ax t a 1:Nat):Int))).Extends w':=by
 have HT:Hid (Calls be 99 #[If (Z ⟨g,0,Y⟩),O J 1] w λe w'=>e=sh (O J (ax t a 1))/\(w.setCell ⟨g,1,Y⟩ (O J ((a:Int)+((1:Nat):Int)))).Extends w'):=oM g a 1 t w h.c0 h.c1 h.hz hs (by omega) (by omega);go_enter Tryz.func155,Tryz.ntmps155;go_wp2_with fail;refine HT.out.mono ?_;rintro e w1 ⟨rfl,hx⟩;have hX:Hid ((w.setCell ⟨g,1,Y⟩ (O J ((a+1:Nat):Int))).Extends w1):=by
  rw[Int.natCast_add];exact hx
 clear hx;have h1:=h.move hX.out;have si:Hid (Calls be 152 #[If (Z ⟨g,0,Y⟩),O J (ax t a 1:Nat)] w1 λe w'=>e=sh (I (t.extract (a+1) (a+1+ax t a 1)))/\∃m,w'=(w1.setCell ⟨g,1,Y⟩ (O J (((a+1:Nat):Int)+((ax t a 1:Nat):Int)))).drew.drewN m):=FW g (a+1) (ax t a 1) t w1 h1.c0 h1.c1 h1.hz hs lW;go_wp2_with fail;refine si.out.mono ?_;rintro e w2 ⟨rfl,m,rfl⟩;go_wp2_with fail;simp[Jk,results,Tryz.results155];refine⟨w1,by simpa using hX.out,?_⟩;exact⟨rfl,rfl,rfl,By _,λ_ _=>rfl,λ_ _=>rfl,λ_ _=>rfl⟩
theorem EM(s:ByteArray)(w:World)(hs:s.size<=1000)(ae0:∀j,j<s.size->90<(s.data.toList.getD j 0).toNat\/(s.data.toList.getD j 0).toNat<65) :
 Calls be 154 #[I s] w λe w'=>e=sh (I s)/\w.Extends w':=by
 have hcv:=λw s=>Qd (P:=be) w 9 127 5 s (u:=.string) IE JQ Js;have XB:∀j,j<s.size->(Of w 5 s).cell? ⟨w.heap.size,j,Y⟩=Z (O .u8 (s.data.toList.getD j 0).toNat):=λj hj=>Lib.bytesWorld_cell w 5 s j hj;have hX:w.Extends (Of w 5 s):=by
  rw[<- ox w s];exact(Iy w).drew.alloc _
 obtain⟨W1,e9⟩:∃W1,W1=Of w 5 s:=⟨_,rfl⟩;go_enter Tryz.func154,Tryz.ntmps154;go_wp2_with fail;rw[<- e9] at XB hX ⊢;clear hcv e9;have CJ:s.data.toList.length=s.size:=by simp
 have wF:∀cap,(convert 127 9 (U (Z ⟨w.heap.size,0,Y⟩) s.size cap)).run be W1=.ok (I s) W1:=λcap=>by
  have h:=run_convert_bytes_back (P:=be) W1 127 9 5 ⟨w.heap.size,0,Y⟩ cap s.data.toList JQ Js IE (λj hj=>by
   have h2:=XB j (by omega);rw[Qn,Ic hj] at h2;have ha:(⟨w.heap.size,0,Y⟩:Addr).add j=⟨w.heap.size,j,Y⟩:=by
    by_cases Su:j=0<;>simp[Addr.add,Su]
   rw[ha];simpa using h2)
  rw[CJ] at h;exact h
 go_loopw [10] (λvi wr=>∃(k:Nat),vi=O J k/\k<=s.size/\wr=W1)
  (λvi _=>s.size-(intOf vi).toNat)
 case atStart=>exact⟨0,rfl,by omega,rfl⟩
 case round=>
  obtain⟨k,rfl,hk,rfl⟩:=hrel;by_cases fM:k<s.size
  .have hc:decide ((k:Int)<(s.size:Int))=true:=by simp;omega
   have ej:=XB k fM;have ei:(0:Int)<=(k:Int):=by omega
   have X0:(k:Int)<(s.size:Int):=by omega
   have Gi:((k:Int)).toNat=k:=by omega
   have hl:=ae0 k fM;generalize hb:(s.data.toList.getD k 0).toNat=b at ej hl;clear XB ae0 wF hb;have abw:(decide ((65:Int)<=(b:Int))&&decide ((b:Int)<=90))=false:=by
    rcases hl with h|h<;>simp<;>omega
   by_cases h65:65<=b
   .have nt:decide ((65:Int)<=(b:Int))=true:=by simp;omega
    have G9:decide ((b:Int)<=90)=false:=by simp;omega
    go_wp2_with fail;refine⟨⟨k+1,by simp,by omega,trivial⟩,by simp[intOf];omega⟩
   .have nt:decide ((65:Int)<=(b:Int))=false:=by simp;omega
    go_wp2_with fail;refine⟨⟨k+1,by simp,by omega,trivial⟩,by simp[intOf];omega⟩
  .have hc:decide ((k:Int)<(s.size:Int))=false:=by simp;omega
   go_wp2_with fail;simp[Jk,results,Tryz.results154];exact hX
structure Rd(g:Nat)(w w':World):Prop where
 os:w'.os=w.os
 tape:w'.tape=w.tape
 output:w'.output=w.output
 size:w.heap.size<=w'.heap.size
 block:∀k:Nat,k<w.heap.size->k≠g->w'.heap[k]?=w.heap[k]?
theorem Rd.trans{g:Nat}{w w1 w2:World}(h:Rd g w w1)(h2:Rd g w1 w2):Rd g w w2:=
 ⟨h2.os.trans h.os,h2.tape.trans h.tape,h2.output.trans h.output,Ir h.size h2.size,λk hk hg=>(h2.block k (Iv hk h.size) hg).trans (h.block k hk hg)⟩
theorem Rd.ext{g:Nat}{w w':World}(h:w.Extends w'):Rd g w w':=⟨h.os,h.tape,h.output,h.size,λk hk _=>h.block k hk⟩
theorem Rd.FX{g:Nat}{v:Value}{w w':World}(h:(w.setCell ⟨g,1,Y⟩ v).Extends w'):Rd g w w':=
 ⟨h.os,h.tape,h.output,by have:=h.size;simpa using this,λk hk hg=>(h.block k (by simpa using hk)).trans (IB w _ _ k hg)⟩
theorem Rd.below{g B:Nat}{w w':World}(h:Rd g w w')(hb:B<=g)(hB:B<=w.heap.size):Below B w w':=
 ⟨h.os,h.tape,h.output,h.size,λk hk=>h.block k (by omega) (by omega)⟩
theorem Rd.fJ{g B:Nat}{w w':World}(h:Below B w w')(hb:w.heap.size<=B):Rd g w w':=
 ⟨h.os,h.tape,h.output,h.size,λk hk _=>h.block k (by omega)⟩
theorem Rd.own{g base:Nat}{w w':World}{v:Value}{l:List ByteArray}(h:Rd g w w')(ho:dC base w v l)(hg:g<base):dC base w' v l:=by
 rcases ho.2 with⟨rfl,h0⟩|⟨k,c,cur,rfl,dQ,hk,eC,dj,cM,aO⟩
 .exact⟨ho.1,.inl ⟨rfl,h0⟩⟩
 .have aL:k<w.heap.size:=(Ia.1 hk).1
  exact⟨ho.1,.inr ⟨k,c,cur,rfl,dQ,(h.block k aL (by omega)).trans hk,eC,dj,cM,aO⟩⟩
theorem dR.ext{g a:Nat}{t:ByteArray}{w w':World}(h:dR g t a w)(hx:w.Extends w'):dR g t a w' where
 c0:=hx.cell_of h.c0
 c1:=hx.cell_of h.c1
 hz:=by rw[hx.frozen _ h.hg];exact h.hz
 hg:=Iv h.hg hx.size
theorem dR.below{g a B:Nat}{t:ByteArray}{w w':World}(h:dR g t a w)(hx:Below B w w')(hB:g<B):dR g t a w' where
 c0:=by have:=h.c0;simp only[World.cell?,hx.block g hB] at this ⊢;exact this
 c1:=by have:=h.c1;simp only[World.cell?,hx.block g hB] at this ⊢;exact this
 hz:=by have:=h.hz;simp only[Ig,hx.block g hB] at this ⊢;exact this
 hg:=Iv h.hg hx.size
theorem ae1{t:ByteArray}{a:Nat}(h:a<t.size):ax t a 1=t[a].toNat:=by
 have h2:t.data[a]?=Z t[a]:=by
  have:a<t.data.size:=h
  rw[Array.getElem?_eq_getElem this];rfl
 simp[ax,h2]
theorem dw(g a n:Nat)(t:ByteArray)(w:World)(h:dR g t a w)(hs:t.size<=1000)(lW:a+n<=t.size)(hn:n<=4) :
 Calls be 99 #[If (Z ⟨g,0,Y⟩),O J n] w λe w'=>e=sh (O J (ax t a n))/\Hid (dR g t (a+n) w')/\Hid (Rd g w w'):=by
 refine(oM g a n t w h.c0 h.c1 h.hz hs lW hn).mono ?_;rintro e w' ⟨rfl,hx⟩;rw[<- Int.natCast_add] at hx;exact⟨rfl,h.move hx,Rd.FX hx⟩
theorem eP(g a n x:Nat)(t:ByteArray)(w:World)(h:dR g t a w)(hs:t.size<=1000)(lW:a+n<=t.size)(hn:n<=4)(hx:ax t a n=x) :
 Calls be 101 #[If (Z ⟨g,0,Y⟩),O J n,O J x] w λe w'=>e=sh (Il #[])/\Hid (dR g t (a+n) w')/\Hid (Rd g w w'):=by
 subst hx;refine(LQ g a n t w h hs lW hn).mono ?_;rintro e w' ⟨rfl,hx⟩;exact⟨rfl,h.move hx,Rd.FX hx⟩
theorem qG(g a k:Nat)(t l:ByteArray)(w:World)(h:dR g t a w)(hs:t.size<=1000)(hk:ax t a 1=k)(lW:a+1+k<=t.size)(hl:t.extract (a+1) (a+1+k)=l) :
 Calls be 155 #[If (Z ⟨g,0,Y⟩)] w λe w'=>e=sh (I l)/\Hid (dR g t (a+1+k) w')/\Hid (Rd g w w'):=by
 subst hk;subst hl;refine(EL g a t w h hs lW).mono ?_;rintro e w' ⟨rfl,w1,hx,hy⟩;exact⟨rfl,(h.move hx).move hy,(Rd.FX hx).trans (Rd.FX hy)⟩
theorem Dp(g a:Nat)(t:ByteArray)(w:World)(h:dR g t a w)(ha:a<t.size) :
 Calls be 153 #[If (Z ⟨g,0,Y⟩)] w λe w'=>e=sh (O .u8 (ax t a 1:Nat))/\Hid (dR g t a w')/\Hid (Rd g w w'):=by
 refine(V5 g a t w h.c0 h.c1 ha).mono ?_;rintro e w' ⟨rfl,m,rfl⟩;rw[ae1 ha];have hx:w.Extends (w.drew.drewN m):=⟨rfl,rfl,rfl,By _,λ_ _=>rfl,λ_ _=>rfl,λ_ _=>rfl⟩;exact⟨rfl,h.ext hx,Rd.ext hx⟩
end Go.Proofs.YtfidjlcdlakceaaGreatDoor
namespace Go.Proofs.YtfidjlcdlakceaaGreatDoor
open Go.RowKit Go.Lib
def uc(t:ByteArray):Nat->List ByteArray->Prop
 |a,[]=>a+1<=t.size/\ax t a 1=0
 |a,l::r=>ax t a 1=l.size/\a+1+l.size<=t.size/\t.extract (a+1) (a+1+l.size)=l/\uc t (a+1+l.size) r
def behind:Nat->List ByteArray->Nat
 |a,[]=>a
 |a,l::r=>behind (a+1+l.size) r
abbrev xz(x:ByteArray):List UInt8:=x.data.toList
def lenOf:Value->Nat
 | U _ n _=>n
 |_=>0
theorem V7{l:ByteArray}(h:aN l=true):∀j,j<l.size->90<(l.data.toList.getD j 0).toNat\/(l.data.toList.getD j 0).toNat<65:=by
 intro j hj;unfold aN at h;simp only[Bool.and_eq_true,List.all_eq_true] at h;have vy:j<l.data.toList.length:=by simpa using hj
 have h2:=h.2 (l.data.toList[j]) (List.getElem_mem vy);rw[Qn,Ic vy]
 revert h2
 generalize l.data.toList[j]=c;intro h2;simp[L1] at h2;simp;omega
theorem ub{l:ByteArray}(h:aN l=true):1<=l.size/\l.size<=30:=by
 unfold aN at h;simp only[Bool.and_eq_true,decide_eq_true_eq] at h;exact h.1
theorem vj:∀(xs:List (List UInt8)),Lib.join xs [46]=jn xs
 |[]=>rfl
 |[x]=>by simp[Lib.join,jn]
 |x::y::r=>by
  have ih:=vj (y::r);simp[Lib.join,jn] at ih ⊢;first|exact ih|simp[ih]
theorem Fm{base:Nat}{w:World}{v:Value}{l:List ByteArray}(h:dC base w v l):lenOf v=l.length:=by
 rcases h.form with⟨rfl,rfl⟩|⟨g,c,rfl,_⟩
 .rfl
 .rfl
theorem xA{base:Nat}{w:World}{v:Value}{l:List ByteArray}(h:dC base w v l):∃p c,v=U p l.length c:=by
 rcases h.form with⟨rfl,rfl⟩|⟨g,c,rfl,_⟩
 .exact⟨Y,0,rfl⟩
 .exact⟨_,c,rfl⟩
theorem Rd.Fy{g:Nat}{w w1 w2:World}(h:Rd g w w1)(hb:Below w.heap.size w1 w2):Rd g w w2:=
 ⟨hb.os.trans h.os,hb.tape.trans h.tape,hb.output.trans h.output,Ir h.size hb.size,λk hk hg=>(hb.block k hk).trans (h.block k hk hg)⟩
theorem join_nil(W:World):Calls be 62 #[U Y 0 0,I ⟨#[46]⟩] W λe w'=>e=sh (I ⟨#[]⟩)/\Below W.heap.size W w':=by
 go_enter Tryz.func62,Tryz.ntmps62;go_wp2_with fail;go_ret;exact⟨rfl,Ib _ _⟩
theorem AM(base:Nat)(ls:List ByteArray)(W:World)(v:Value)(ho:dC base W v ls)(hn:ls.length<=1000)(hz:(jn (ls.map xz)).length<=100000) :
 Calls be 62 #[v,I ⟨#[46]⟩] W λe w'=>e=sh (I (mk (jn (ls.map xz))))/\Below W.heap.size W w':=by
 rcases ho.form with⟨rfl,rfl⟩|⟨g,c,rfl,hc,_,hg,ej⟩
 .exact join_nil W
 .have h3:=Tryz.strings_Join g 0 c ls ⟨#[46]⟩ W (λj x hj=>by
   obtain⟨SN,vy⟩:=List.getElem?_eq_some_iff.1 hj;rw[Nat.zero_add,ej j SN];simp[List.getD,SN,vy]) hg (by omega) hc (by
   rw[show(ByteArray.mk #[46]).data.toList=[46] from rfl,vj];exact Ir hz (by omega))
  rw[show(ByteArray.mk #[46]).data.toList=[46] from rfl,vj] at h3;exact h3
theorem nu(w:World)(m:Nat):w.Extends (w.drewN m):=⟨rfl,rfl,rfl,By _,λ_ _=>rfl,λ_ _=>rfl,λ_ _=>rfl⟩
theorem V8{g base:Nat}{wr w2:World}{lv:Value}{D ls:List ByteArray}(h:Hid (Rd g wr w2))(ho:Hid (dC base wr lv D))(he:Hid (ls=D++[]))(hg:g<base):Hid (dC base w2 lv ls):=(show dC base w2 lv ls by
 have h:=h.out.own ho.out hg;rw[he.out,List.append_nil];exact h)
theorem RZ{g base:Nat}{wr w2:World}{lv:Value}{D:List ByteArray}(h:Hid (Rd g wr w2))(ho:Hid (dC base wr lv D))(hg:g<base):Hid (dC base w2 lv D):=h.out.own ho.out hg
theorem Fo(g a:Nat)(ls:List ByteArray)(t:ByteArray)(w:World)(h:dR g t a w)(hs:t.size<=1000)(tr:uc t a ls)(lj:∀l∈ls,aN l=true)(hn:ls.length<=8)(hz:(jn (ls.map xz)).length<=100000) :
 Calls be 102 #[If (Z ⟨g,0,Y⟩)] w λe w'=>e=sh (I (mk (jn (ls.map xz))))/\Hid (dR g t (behind a ls+1) w')/\Hid (Rd g w w'):=by
 obtain⟨i0,ei,bW,fs,eU⟩:=info_parts Tryz.yz;have c1:=h.c1;have nN:=h.hg;have HI:Hid (dR g t a w):=h;have lG:Hid (uc t a ls):=tr;have HLB:Hid (∀l∈ls,aN l=true):=lj;have HJ:Hid (∀W v,dC w.heap.size W v ls->Calls be 62 #[v,I ⟨#[46]⟩] W λe w'=>e=sh (I (mk (jn (ls.map xz))))/\Below W.heap.size W w'):=λW v ho=>AM _ ls W v ho (by omega) hz;have HN:Hid (ls.length<=8):=hn;clear h tr lj hz hn;generalize mk (jn (ls.map xz))=R at *;go_enter Tryz.func102,Tryz.ntmps102;go_wp2_with fail;go_quiet (fail)
 go_wp2_with fail;go_loopw [3,4,5] (λlv pv bv wr=>pv=If (Z ⟨g,0,Y⟩)/\bv=O J a/\∃(D r:List ByteArray) (b:Nat),Hid (ls=D++r)/\Hid (uc t b r)/\Hid (behind b r=behind a ls)/\Hid (dR g t b wr)/\Hid (Rd g w wr)/\Hid (dC w.heap.size wr lv D)) (λlv _ _ _=>ls.length-lenOf lv)
 case atStart=>exact⟨rfl,rfl,[],ls,a,rfl,lG,rfl,HI.out.ext (nu _ _),(Rd.ext (nu _ _):Rd g w _),qw _ _⟩
 case round=>
  obtain⟨rfl,rfl,D,r,b,HE,HS,HH,HR,HD,HO⟩:=hrel;have bA:=HD.out.size;rcases r with _|⟨l,r⟩
  .have HP:Hid (Calls be 153 #[If (Z ⟨g,0,Y⟩)] wr λe w'=>e=sh (O .u8 0)/\Hid (dR g t b w')/\Hid (Rd g wr w')):=(show Calls _ _ _ _ _ by
    have h:=Dp g b t wr HR.out HS.out.1;rw[HS.out.2] at h;exact h)
   go_wp2_with fail;refine HP.out.mono ?_;rintro e w1 ⟨rfl,kD,jF⟩;go_wp2_with fail;refine(eP g b 1 0 t w1 kD.out hs HS.out.1 (by omega) HS.out.2).mono ?_;rintro e w2 ⟨rfl,my,lQ⟩;have HX:Hid (Rd g wr w2):=jF.out.trans lQ.out;have gv:=V8 HX HO HE nN;go_wp2_with fail;refine(HJ.out _ _ gv.out).mono ?_;rintro e w3 ⟨rfl,bf⟩;have da:Hid (Below w2.heap.size w2 w3):=bf;clear bf;go_wp2_with fail;go_ret;refine⟨rfl,?_,?_⟩
   .rw[<- HH.out]
    exact my.out.below da.out my.out.hg
   .exact(HD.out.trans HX.out).trans (Rd.fJ da.out (By _))
  .have hl:aN l=true:=HLB.out l (by rw[HE.out];simp)
   have ac7:=ub hl;have CB:Hid (ax t b 1=l.size):=HS.out.1;have Ad:Hid (b+1+l.size<=t.size):=HS.out.2.1;have Vy:Hid (t.extract (b+1) (b+1+l.size)=l):=HS.out.2.2.1;have DW:Hid (uc t (b+1+l.size) r):=HS.out.2.2.2;have hDn:D.length+1<=ls.length:=by rw[HE.out];simp
   have Ny:D.length<8:=by have:=HN.out;omega
   have HP:Hid (Calls be 153 #[If (Z ⟨g,0,Y⟩)] wr λe w'=>e=sh (O .u8 (l.size:Nat))/\Hid (dR g t b w')/\Hid (Rd g wr w')):=(show Calls _ _ _ _ _ by
    have h:=Dp g b t wr HR.out (by have:=Ad.out;omega);rw[CB.out] at h;exact h)
   have hm0:((l.size:Int)==0)=false:=beq_eq_false_iff_ne.2 (by omega);have oO:¬ (l.size:Int)=0:=by omega
   have SI:decide ((192:Int)<=(l.size:Int))=false:=by simp;omega
   have Fe:Hid (aN l=true):=hl;have hls:l.size<=Ij:=by unfold Ij;omega
   clear HS hl;go_wp2_with fail;refine HP.out.mono ?_;rintro e w1 ⟨rfl,kD,jF⟩;go_wp2_with fail;refine(qG g b l.size t l w1 kD.out hs CB.out Ad.out Vy.out).mono ?_;rintro e w2 ⟨rfl,my,lQ⟩;go_wp2_with fail;refine(EM l w2 (by omega) (V7 Fe.out)).mono ?_;rintro e w3 ⟨rfl,hx3⟩;have AH:Hid (dR g t (b+1+l.size) w3):=my.out.ext hx3;have GX:Hid (Rd g wr w3):=(jF.out.trans lQ.out).trans (Rd.ext hx3);have eB:=RZ GX HO nN;have WN:Hid (Rd g w w3):=HD.out.trans GX.out;have ajG:=WN.out.size;clear hx3 GX jF lQ kD my HO HD HR HP;obtain⟨p,c,hv⟩:=xA eB.out;subst hv;have hd8:decide ((D.length:Int)<8)=true:=by simp;omega
   go_wp2_with fail;refine(bc l w3 hls).mono ?_;rintro e w4 ⟨rfl,yD⟩;subst yD;rw[Fe.out];go_wp2_with fail;refine(cy _ _).mono ?_;rintro e w5 ⟨rfl,yE⟩;subst yE;go_wp2_with (at_builtin;refine wpList_append_own _ rfl _ _ 111 rfl w.heap.size 9 i0 _ 1 16 Tryz.underlying111 ei bW fs eU rfl (by omega) _ D.length (D.map Value.string) rfl ?hown ⟨w5.heap.size,0,Y⟩ 1 1 [I l] rfl rfl ?hnews (o8 [_]) ?h63 ?hbytes ?hbase ?_)
   case hown=>exact eB.out.below ((Ib _ _).alloc (By _) _)
   case hnews=>(intro j u hj;rw[Addr.add_lit];exact(bJ (by simp)).trans (by simpa using hj))
   case h63=>(unfold Ij;omega)
   case hbytes=>omega
   case hbase=>(simp;omega)
   intro v' w6 r1 r2 r3;have hB6:Below w.heap.size w5 w6:=((Ib _ _).alloc ajG _).grown r2 (by simp;omega) (λj hj=>(eB.out.lt j hj).1);have HDX:Hid (Rd g w w6):=WN.out.Fy hB6;have HRX:Hid (dR g t (b+1+l.size) w6):=AH.out.below hB6 nN;have Wz:Hid (dC w.heap.size w6 v' (D++[l])):=oo (l:=D) r1;have HEX:Hid (ls=(D++[l])++r):=(show ls=_ by rw[HE.out];simp);have HHX:Hid (behind (b+1+l.size) r=behind a ls):=HH;clear r1 r2 r3 hB6 eB WN AH HE HH;go_wp2_with fail;refine⟨⟨rfl,rfl,D++[l],r,b+1+l.size,HEX,DW,HHX,HRX,HDX,Wz⟩,?_⟩;rw[Fm Wz.out,show lenOf (Value.slice p D.length c)=D.length from rfl,Ii,List.length_singleton];omega
end Go.Proofs.YtfidjlcdlakceaaGreatDoor
namespace Go.Proofs.YtfidjlcdlakceaaGreatDoor
open Go.RowKit
def pc(aB cut:Bool):Int:=(if aB then 128 else 0)+(if cut then 2 else 0)
abbrev sx(id code an:Int)(aB cut:Bool)(name:ByteArray):Value:=.agg #[O J id,AI aB,AI cut,O J code,I name,O J an,U Y 0 0]
theorem nx(id code an:Int)(aB cut:Bool)(name:ByteArray)(w:World) :
 Calls be 100 #[sx id code an aB cut name] w λe w'=>e=sh (O J (pc aB cut))/\∃o,w'=w.alloc o:=by
 cases aB<;>cases cut
 all_goals
  go_enter Tryz.func100,Tryz.ntmps100;go_wp2_with fail;go_ret;exact⟨rfl,_,rfl⟩
def LR(id code an:Int)(aB cut:Bool)(name:ByteArray):List Value:=
 cE id 2++(cE (pc aB cut) 1++(cE code 1++(cE 1 2++(cE 0 2++(cE 0 2++(cE 0 2++(dD name++(cE an 2++cE 1 2))))))))
theorem ML.kp{B b:Nat}{w w':World}(h:ML w)(hk:Kp B b w w')(hB:0<B):ML w':=by
 obtain⟨h1,m,h2⟩:=h;exact⟨Iv h1 hk.size,m,(hk.yd.cell (p:=⟨0,0,Y⟩) hB).trans h2⟩
theorem zC(B b:Nat)(bs:List Value)(id code an:Int)(aB cut:Bool)(name:ByteArray)(w:World)(hm:ML w)(h:cj B b bs w)(hlen:bs.length<=1000)(hn:bT name=0)(sw:B<=w.heap.size)(lR:0<B) :
 Calls be 74 #[If (Z ⟨b,0,Y⟩),sx id code an aB cut name] w λe w'=>e=sh (Il #[])/\cj B b (bs++LR id code an aB cut name) w'/\Kp B b w w':=by
 have HI:Hid (cj B b bs w):=h;clear h;have aU:=HI.out.lt;obtain⟨hL8,tT⟩:=kC hn;have hwn:(dD name).length<=249:=by
  unfold dD;rw[Ii,bB];have:=mv (gB name) tT;omega
 clear hL8 tT;go_enter Tryz.func74,Tryz.ntmps74;go_wp2_with fail;obtain⟨w0,dJ⟩:∃w0,w0=w.alloc (AT #[O J id,AI aB,AI cut,O J code,I name,O J an,U Y 0 0] 43):=⟨_,rfl⟩;rw[<- dJ];have dt:w0.heap[w.heap.size]?=Z (AT #[O J id,AI aB,AI cut,O J code,I name,O J an,U Y 0 0] 43 (0,0)):=by rw[dJ];exact Ie w _
 have xq:Hid (Kp B b w w0):=(show Kp B b w w0 by rw[dJ];exact Kp.alloc _ sw);have Mc:Hid (cj B b bs w0):=(show cj B b bs w0 by rw[dJ];exact HI.out.alloc _);have Ct:Hid (ML w0):=(show ML w0 from hm.kp xq.out lR);have HG:Hid (∀W,Kp B b w0 W->W.cell? ⟨w.heap.size,0,Y⟩=Z (O J id)/\W.cell? ⟨w.heap.size,1,Y⟩=Z (AI aB)/\W.cell? ⟨w.heap.size,2,Y⟩=Z (AI cut)/\W.cell? ⟨w.heap.size,3,Y⟩=Z (O J code)/\W.cell? ⟨w.heap.size,4,Y⟩=Z (I name)/\W.cell? ⟨w.heap.size,5,Y⟩=Z (O J an)/\W.cell? ⟨w.heap.size,6,Y⟩=Z (U Y 0 0)):=λW hW=>by
  have hg:W.heap[w.heap.size]?=Z (AT #[O J id,AI aB,AI cut,O J code,I name,O J an,U Y 0 0] 43 (0,0)):=hW.GU _ _ dt (by simp;omega) (by simp);exact⟨af hg 0,af hg 1,af hg 2,af hg 3,af hg 4,af hg 5,af hg 6⟩
 have bW:B<=w0.heap.size:=Ir sw xq.out.size;clear dt dJ hm;refine(aM B b 2 id bs w0 Mc.out (by omega) (by omega) (Ir bW (Kp.size (Kp.refl B b w0)))).mono ?_;rintro e w1 ⟨rfl,h1,al⟩;have nJ:Hid (Kp B b w0 w1):=Kp.trans (Kp.refl B b w0) al;have l1:(bs++cE id 2).length<=1002:=by rw[Ii,bB];omega
 obtain⟨D1,hD1⟩:∃D,D=bs++cE id 2:=⟨_,rfl⟩;rw[<- hD1] at h1 l1;have jF:Hid (D1=bs++cE id 2):=hD1;have sU:Hid (cj B b D1 w1):=h1;clear hD1 h1 al;obtain⟨c0,c1,c2,c3,c4,c5,c6⟩:=HG.out w1 nJ.out;go_wp2_with fail;refine(nx id code an aB cut name _).mono ?_;rintro e wf ⟨rfl,o,GW⟩;have HIf:Hid (cj B b D1 wf):=(show cj B b D1 wf by rw[GW];exact cj.alloc sU.out _);have WM:Hid (Kp B b w0 wf):=(show Kp B b w0 wf by rw[GW];exact Kp.trans nJ.out (Kp.alloc _ (Ir bW (Kp.size nJ.out))));clear GW;obtain⟨x0,x1,x2,x3,x4,x5,x6⟩:=HG.out wf WM.out;clear c0 c1 c2 c3 c4 c5 c6;have c0:=x0;have c1:=x1;have c2:=x2;have c3:=x3;have c4:=x4;have c5:=x5;have c6:=x6;clear x0 x1 x2 x3 x4 x5 x6;go_wp2_with fail;refine(aM B b 1 (pc aB cut) D1 wf HIf.out (by omega) (by omega) (Ir bW (Kp.size WM.out))).mono ?_;rintro e w2 ⟨rfl,h2,aC⟩;have j3:Hid (Kp B b w0 w2):=Kp.trans WM.out aC;have l2:(D1++cE (pc aB cut) 1).length<=1003:=by rw[Ii,bB];omega
 obtain⟨D2,Ss⟩:∃D,D=D1++cE (pc aB cut) 1:=⟨_,rfl⟩;rw[<- Ss] at h2 l2;have lQ:Hid (D2=D1++cE (pc aB cut) 1):=Ss;have vC:Hid (cj B b D2 w2):=h2;clear Ss h2 aC c0 c1 c2 c3 c4 c5 c6;obtain⟨c0,c1,c2,c3,c4,c5,c6⟩:=HG.out w2 j3.out;go_wp2_with fail;refine(aM B b 1 code D2 w2 vC.out (by omega) (by omega) (Ir bW (Kp.size j3.out))).mono ?_;rintro e w3 ⟨rfl,h3,bf⟩;have nq:Hid (Kp B b w0 w3):=Kp.trans j3.out bf;have l3:(D2++cE code 1).length<=1004:=by rw[Ii,bB];omega
 obtain⟨D3,hD3⟩:∃D,D=D2++cE code 1:=⟨_,rfl⟩;rw[<- hD3] at h3 l3;have GX:Hid (D3=D2++cE code 1):=hD3;have TD:Hid (cj B b D3 w3):=h3;clear hD3 h3 bf c0 c1 c2 c3 c4 c5 c6;obtain⟨c0,c1,c2,c3,c4,c5,c6⟩:=HG.out w3 nq.out;go_wp2_with fail;refine(aM B b 2 1 D3 w3 TD.out (by omega) (by omega) (Ir bW (Kp.size nq.out))).mono ?_;rintro e w4 ⟨rfl,h4,fa⟩;have vD:Hid (Kp B b w0 w4):=Kp.trans nq.out fa;have l4:(D3++cE 1 2).length<=1006:=by rw[Ii,bB];omega
 obtain⟨D4,hD4⟩:∃D,D=D3++cE 1 2:=⟨_,rfl⟩;rw[<- hD4] at h4 l4;have WN:Hid (D4=D3++cE 1 2):=hD4;have TE:Hid (cj B b D4 w4):=h4;clear hD4 h4 fa c0 c1 c2 c3 c4 c5 c6;obtain⟨c0,c1,c2,c3,c4,c5,c6⟩:=HG.out w4 vD.out;go_wp2_with fail;refine(aM B b 2 0 D4 w4 TE.out (by omega) (by omega) (Ir bW (Kp.size vD.out))).mono ?_;rintro e w5 ⟨rfl,h5,lA⟩;have xu:Hid (Kp B b w0 w5):=Kp.trans vD.out lA;have l5:(D4++cE 0 2).length<=1008:=by rw[Ii,bB];omega
 obtain⟨D5,hD5⟩:∃D,D=D4++cE 0 2:=⟨_,rfl⟩;rw[<- hD5] at h5 l5;have X8:Hid (D5=D4++cE 0 2):=hD5;have X7:Hid (cj B b D5 w5):=h5;clear hD5 h5 lA c0 c1 c2 c3 c4 c5 c6;obtain⟨c0,c1,c2,c3,c4,c5,c6⟩:=HG.out w5 xu.out;go_wp2_with fail;refine(aM B b 2 0 D5 w5 X7.out (by omega) (by omega) (Ir bW (Kp.size xu.out))).mono ?_;rintro e w6 ⟨rfl,h6,ix⟩;have vA:Hid (Kp B b w0 w6):=Kp.trans xu.out ix;have l6:(D5++cE 0 2).length<=1010:=by rw[Ii,bB];omega
 obtain⟨D6,hD6⟩:∃D,D=D5++cE 0 2:=⟨_,rfl⟩;rw[<- hD6] at h6 l6;have WL:Hid (D6=D5++cE 0 2):=hD6;have X9:Hid (cj B b D6 w6):=h6;clear hD6 h6 ix c0 c1 c2 c3 c4 c5 c6;obtain⟨c0,c1,c2,c3,c4,c5,c6⟩:=HG.out w6 vA.out;go_wp2_with fail;refine(aM B b 2 0 D6 w6 X9.out (by omega) (by omega) (Ir bW (Kp.size vA.out))).mono ?_;rintro e w7 ⟨rfl,h7,wG⟩;have pY:Hid (Kp B b w0 w7):=Kp.trans vA.out wG;have l7:(D6++cE 0 2).length<=1012:=by rw[Ii,bB];omega
 obtain⟨D7,hD7⟩:∃D,D=D6++cE 0 2:=⟨_,rfl⟩;rw[<- hD7] at h7 l7;have HD7:Hid (D7=D6++cE 0 2):=hD7;have HI7:Hid (cj B b D7 w7):=h7;clear hD7 h7 wG c0 c1 c2 c3 c4 c5 c6;obtain⟨c0,c1,c2,c3,c4,c5,c6⟩:=HG.out w7 pY.out;go_wp2_with fail;refine(nr B b D7 name w7 (ML.kp Ct.out pY.out lR) HI7.out (by omega) hn (Ir bW (Kp.size pY.out))).mono ?_;rintro e w8 ⟨rfl,h8,wu⟩;have Fh:Hid (Kp B b w0 w8):=Kp.trans pY.out wu;have l8:(D7++dD name).length<=1261:=by rw[Ii];omega
 obtain⟨D8,Ny⟩:∃D,D=D7++dD name:=⟨_,rfl⟩;rw[<- Ny] at h8 l8;have HD8:Hid (D8=D7++dD name):=Ny;have HI8:Hid (cj B b D8 w8):=h8;clear Ny h8 wu c0 c1 c2 c3 c4 c5 c6;obtain⟨c0,c1,c2,c3,c4,c5,c6⟩:=HG.out w8 Fh.out;go_wp2_with fail;refine(aM B b 2 an D8 w8 HI8.out (by omega) (by omega) (Ir bW (Kp.size Fh.out))).mono ?_;rintro e w9 ⟨rfl,h9,vB⟩;have Fi:Hid (Kp B b w0 w9):=Kp.trans Fh.out vB;have l9:(D8++cE an 2).length<=1263:=by rw[Ii,bB];omega
 obtain⟨D9,hD9⟩:∃D,D=D8++cE an 2:=⟨_,rfl⟩;rw[<- hD9] at h9 l9;have HD9:Hid (D9=D8++cE an 2):=hD9;have HI9:Hid (cj B b D9 w9):=h9;clear hD9 h9 vB c0 c1 c2 c3 c4 c5 c6;obtain⟨c0,c1,c2,c3,c4,c5,c6⟩:=HG.out w9 Fi.out;go_wp2_with fail;refine(aM B b 2 1 D9 w9 HI9.out (by omega) (by omega) (Ir bW (Kp.size Fi.out))).mono ?_;rintro e w10 ⟨rfl,h10,gH⟩;have tY:Hid (Kp B b w0 w10):=Kp.trans Fi.out gH;have l10:(D9++cE 1 2).length<=1265:=by rw[Ii,bB];omega
 obtain⟨D10,Di⟩:∃D,D=D9++cE 1 2:=⟨_,rfl⟩;rw[<- Di] at h10 l10;have TI:Hid (D10=D9++cE 1 2):=Di;have TJ:Hid (cj B b D10 w10):=h10;clear Di h10 gH c0 c1 c2 c3 c4 c5 c6;obtain⟨c0,c1,c2,c3,c4,c5,c6⟩:=HG.out w10 tY.out;go_wp2_with fail;have HF:Hid (D10=bs++LR id code an aB cut name):=(show _=_ by rw[TI.out,HD9.out,HD8.out,HD7.out,WL.out,X8.out,WN.out,GX.out,lQ.out,jF.out];simp[LR]);have HIF:Hid (cj B b (bs++LR id code an aB cut name) w10):=(show cj _ _ _ _ by rw[<- HF.out];exact TJ.out);have HKF:Hid (Kp B b w w10):=xq.out.trans tY.out;go_loopw [44] (λi wr=>i=O J 0/\wr=w10) (λ_ _=>0)
 case atStart=>exact⟨rfl,rfl⟩
 case round=>
  obtain⟨rfl,WQ⟩:=hrel;subst WQ;go_wp2_with fail;simp[Jk,results,Tryz.results74];exact⟨HIF.out,HKF.out⟩
theorem Tryz.cellsByte:Tryz.prog.cellsOf 5=1:=by kernel_rfl
theorem ua(B b:Nat)(l:List UInt8)(w:World)(h:cj B b (I8 l) w)(h0:l≠[]) :
 Calls be 75 #[If (Z ⟨b,0,Y⟩)] w λe w'=>e=sh (I ⟨l.toArray⟩)/\Below B w w':=by
 obtain⟨p,hB,v,wF,hown,bu⟩:∃p,Cu B b p (I8 l) w:=by
  rcases h with h|h
  .exact⟨_,h⟩
  .exact⟨_,h⟩
 have vz:l.length≠0:=by simpa using h0
 rw[Lib.byteCells_length] at hown;obtain⟨g,cap,cur,rfl,dQ,hg,eC,dj,cM,aO⟩:∃g cap cur,v=U (Z ⟨g,0,Y⟩) l.length cap/\B<=g/\w.heap[g]?=Z (AT cur 5 (0,0))/\l.length<=cap/\cap<=Ij/\cur.size=cap*1/\cur.toList.take (l.length*1)=I8 l:=by
  rcases hown.2 with⟨_,hz⟩|⟨g,cap,cur,hv,r⟩
  .exact absurd hz vz
  .exact⟨g,cap,cur,hv,r⟩
 have c1:w.drew.cell? ⟨b,1,Y⟩=Z (U (Z ⟨g,0,Y⟩) l.length cap):=by
  have:w.drew.heap[b]?=Z (AT #[p,U (Z ⟨g,0,Y⟩) l.length cap] 131 (0,0)):=wF
  rw[Lib.cell_of_heap this];rfl
 have hSD:(Builtin.unsafeSliceData_ #[127] 186 #[U (Z ⟨g,0,Y⟩) l.length cap]).run be w.drew=.ok (If (Z ⟨g,0,Y⟩)) w.drew:=
  Lib.run_unsafeSliceData_row _ _ _ _ _ _ (by omega)
 have hUS:(Builtin.unsafeString_ #[186,3] 9 #[If (Z ⟨g,0,Y⟩),O J l.length]).run be w.drew=.ok (I ⟨l.toArray⟩) (w.drew.freeze ⟨g,0,Y⟩ l.length):=by
  refine Lib.run_unsafeString_row w.drew 186 3 9 5 Tryz.underlying186 Tryz.cellsByte g cur.size (by have tV:w.drew.heap[g]?=Z (AT cur 5 (0,0)):=hg;simp[World.shape?,tV]) l h0 (by omega) (by unfold Ij at dj;omega) ?_;intro j x hx;have:=hown.cells (g:=g) rfl j (O .u8 x.toNat) (by simp[I8,hx]);exact this
 have mixed:Tryz.prog.follows .mixedOrders=true:=by kernel_rfl
 go_enter Tryz.func75,Tryz.ntmps75;go_wp2_with fail;go_region_o
 all_goals (go_wp2;go_ret;exact⟨rfl,Lib.below_freeze (Below.drew (Ib B w)) (p:=⟨g,0,Y⟩) dQ _⟩)
def fC(n:Int):Nat->List UInt8
 |0=>[]
 |k+1=>(bt n k).toNat.toUInt8::fC n k
theorem zz(n:Int)(k:Nat):0<=bt n k/\bt n k<256:=by
 unfold bt;generalize n/2^(8*(k:Int)).toNat=x;rw[QR];omega
theorem fx(n:Int):∀k,cE n k=I8 (fC n k)
 |0=>rfl
 |k+1=>by
  have h:=zz n k;rw[cE,fx n k,fC];simp[I8];omega
def il(l:ByteArray):List UInt8:=fC l.size 1++l.data.toList
def cG(s:ByteArray):List UInt8:=(gB s).flatMap il++fC 0 1
def jv(id code an:Int)(aB cut:Bool)(name:ByteArray):List UInt8:=
 fC id 2++(fC (pc aB cut) 1++(fC code 1++(fC 1 2++(fC 0 2++(fC 0 2++(fC 0 2++(cG name++(fC an 2++fC 1 2))))))))
theorem fy(a b:List UInt8):I8 (a++b)=I8 a++I8 b:=by simp[I8]
theorem EN(l:ByteArray):lM l=I8 (il l):=by
 unfold lM il;rw[fy,fx];rfl
theorem vo:∀(L:List ByteArray),L.flatMap lM=I8 (L.flatMap il)
 |[]=>rfl
 |x::r=>by rw[JY,JY,fy,vo r,EN]
theorem ij(s:ByteArray):dD s=I8 (cG s):=by
 unfold dD cG;rw[fy,vo,fx]
theorem EO(id code an:Int)(aB cut:Bool)(name:ByteArray):LR id code an aB cut name=I8 (jv id code an aB cut name):=by
 unfold LR jv;simp only[fy,fx,ij]
theorem R0(id code an:Int)(aB cut:Bool)(name:ByteArray):jv id code an aB cut name≠[]:=by
 unfold jv;simp[fC]
theorem zD(id code an:Int)(aB cut:Bool)(name:ByteArray)(w:World)(hm:ML w)(hn:bT name=0) :
 Calls be 29 #[sx id code an aB cut name] w λe w'=>e=sh (I ⟨(jv id code an aB cut name).toArray⟩)/\Below w.heap.size w w':=by
 go_enter Tryz.func29,Tryz.ntmps29;go_wp2_with fail;obtain⟨w0,dJ⟩:∃w0,w0=(w.alloc (AT #[O J id,AI aB,AI cut,O J code,I name,O J an,U Y 0 0] 43)).alloc (AT #[If Y,U Y 0 0] 131):=⟨_,rfl⟩;rw[<- dJ];have bA:w0.heap.size=w.heap.size+2:=by rw[dJ];simp
 have zI:w0.heap[w.heap.size+1]?=Z (AT #[If Y,U Y 0 0] 131 (0,0)):=by
  have h:=Ie (w.alloc (AT #[O J id,AI aB,AI cut,O J code,I name,O J an,U Y 0 0] 43)) (AT #[If Y,U Y 0 0] 131);rw[dJ];simpa using h
 have dy:Hid (Below w.heap.size w w0):=(show Below _ _ _ by rw[dJ];exact((Ib _ _).alloc (By _) _).alloc (by simp) _);have Mc:Hid (cj (w.heap.size+1) (w.heap.size+1) [] w0):=(show cj _ _ _ _ from .inl ⟨By _,U Y 0 0,zI,World.ownsRow_nil w0 _ 5 1,by simp[Value.ownBlock]⟩);have Ct:Hid (ML w0):=(show ML w0 from hm.below dy.out);clear dJ zI hm;refine(zC (w.heap.size+1) (w.heap.size+1) [] id code an aB cut name w0 Ct.out Mc.out (by simp) hn (by omega) (by omega)).mono ?_;rintro e w1 ⟨rfl,h1,al⟩;have sU:Hid (cj (w.heap.size+1) (w.heap.size+1) (I8 (jv id code an aB cut name)) w1):=(show cj _ _ _ _ by rw[<- EO];simpa using h1);have aR:Hid (Below w.heap.size w w1):=dy.out.trans (al.yd.mono (by omega));have cS:=aR.out.size;have iX:=al.size;clear h1 al;go_wp2_with fail;refine(ua (w.heap.size+1) (w.heap.size+1) _ w1 sU.out (R0 _ _ _ _ _ _)).mono ?_;rintro e w2 ⟨rfl,aC⟩;have bw:Hid (Below w.heap.size w w2):=aR.out.trans (aC.mono (by omega));clear aC;go_wp2_with fail;go_ret;exact⟨rfl,bw.out⟩
theorem LS(g:Nat)(id code an:Int)(aB cut:Bool)(name:ByteArray)(w:World)(hg:w.heap[g]?=Z (AT #[O J id,AI aB,AI cut,O J code,I name,O J an,U Y 0 0] 43 (0,0)))(h1:within id 0 65535=true)(h2:within code 0 15=true)(hs:name.size<=Ij)(hn:bT name=0)(ht:(decide (an=1)||decide (an=16)||decide (an=33))=true) :
 Calls be 27 #[If (Z ⟨g,0,Y⟩)] w λr w'=>r=sh (Il #[])/\Below w.heap.size w w':=by
 have HC:Hid (Calls be 28 #[.agg #[O J id,AI aB,AI cut,O J code,I name,O J an,U Y 0 0]] w λr w'=>r=sh (Il #[])/\Below w.heap.size w w'):=rA id code an aB cut name w h1 h2 hs hn ht;have c0:w.cell? ⟨g,0,Y⟩=Z (O J id):=af hg 0;have c1:w.cell? ⟨g,1,Y⟩=Z (AI aB):=af hg 1;have c2:w.cell? ⟨g,2,Y⟩=Z (AI cut):=af hg 2;have c3:w.cell? ⟨g,3,Y⟩=Z (O J code):=af hg 3;have c4:w.cell? ⟨g,4,Y⟩=Z (I name):=af hg 4;have c5:w.cell? ⟨g,5,Y⟩=Z (O J an):=af hg 5;have c6:w.cell? ⟨g,6,Y⟩=Z (U Y 0 0):=af hg 6;clear h1 h2 hs hn ht hg;go_enter Tryz.func27,Tryz.ntmps27;go_wp2_with fail;refine HC.out.mono ?_;rintro e w1 ⟨rfl,al⟩;have aR:Hid (Below w.heap.size w w1):=al;clear al;go_wp2_with fail;simp[Jk,results,Tryz.results27];exact aR.out
theorem Dn(id code an:Int)(aB cut:Bool)(name:ByteArray)(w:World)(hm:ML w)(h1:within id 0 65535=true)(h2:within code 0 15=true)(hs:name.size<=Ij)(hn:bT name=0)(ht:(decide (an=1)||decide (an=16)||decide (an=33))=true)(hl:(jv id code an aB cut name).length<=512) :
 Calls be 9 #[sx id code an aB cut name] w λe w'=>e=sh (Il #[I ⟨(jv id code an aB cut name).toArray⟩,O J 0])/\Below w.heap.size w w':=by
 have NB:Hid (∀W,Below w.heap.size w W->Calls be 29 #[sx id code an aB cut name] W λe w'=>e=sh (I ⟨(jv id code an aB cut name).toArray⟩)/\Below W.heap.size W w'):=λW hW=>zD id code an aB cut name W (hm.below hW) hn;have rC:Hid (∀(g:Nat) (W:World),W.heap[g]?=Z (AT #[O J id,AI aB,AI cut,O J code,I name,O J an,U Y 0 0] 43 (0,0))->Calls be 27 #[If (Z ⟨g,0,Y⟩)] W λr w'=>r=sh (Il #[])/\Below W.heap.size W w'):=λg W hg=>LS g id code an aB cut name W hg h1 h2 hs hn ht;have ef:∀args W,(callFunc 27 args).run be W=.ok (.enter 27 args) W:=enters_of Tryz.func27 (by kernel_rfl) rfl;have hlen:((⟨(jv id code an aB cut name).toArray⟩:ByteArray).size:Int)<=512:=by
  have:(⟨(jv id code an aB cut name).toArray⟩:ByteArray).size=(jv id code an aB cut name).length:=by simp[ByteArray.size]
  omega
 generalize(⟨(jv id code an aB cut name).toArray⟩:ByteArray)=T at *;clear h1 h2 hs hn ht hl hm;go_enter Tryz.func9,Tryz.ntmps9;go_wp2_with fail;obtain⟨w0,dJ⟩:∃w0,w0=w.alloc (AT #[O J id,AI aB,AI cut,O J code,I name,O J an,U Y 0 0] 43):=⟨_,rfl⟩;rw[<- dJ];have dt:w0.heap[w.heap.size]?=Z (AT #[O J id,AI aB,AI cut,O J code,I name,O J an,U Y 0 0] 43 (0,0)):=by rw[dJ];exact Ie w _
 have dy:Hid (Below w.heap.size w w0):=(show Below _ _ _ by rw[dJ];exact(Ib _ _).alloc (By _) _);have vz:w.heap.size<w0.heap.size:=(Ia.1 dt).1;clear dJ;have j6:(w0.alloc (AT #[O J 0] 34)).heap[w0.heap.size]?=Z (AT #[O J 0] 34 (0,0)):=Ie w0 _;have kO:(w0.alloc (AT #[O J 0] 34)).heap[w.heap.size]?=Z (AT #[O J id,AI aB,AI cut,O J code,I name,O J an,U Y 0 0] 43 (0,0)):=(I9 w0 _ _ vz).trans dt;have hsa:(w0.alloc (AT #[O J 0] 34)).heap.size=w0.heap.size+1:=by simp
 have fw:Hid (Calls be 26 #[.func (.func 27) #[] #[If (Z ⟨w.heap.size,0,Y⟩)]] w0 λr w'=>r=sh (O J 0)/\Below w0.heap.size w0 w'):=(show Calls _ _ _ _ _ by
  refine(kV 27 #[If (Z ⟨w.heap.size,0,Y⟩)] w0 (λW=>Below (w0.heap.size+1) (w0.alloc (AT #[O J 0] 34)) W) ef ?_).mono ?_
  .refine(rC.out w.heap.size _ kO).mono ?_
   rintro r w' ⟨rfl,hb⟩;rw[hsa] at hb;have hk:w'.heap[w0.heap.size]?=Z (AT #[O J 0] 34 (0,0)):=(hb.block _ (by omega)).trans j6;exact⟨rfl,hb,af hk 0,by simp[Ig,hk],(Ia.1 hk).1⟩
  .rintro r w' ⟨rfl,w1,hR,_,rfl⟩
   exact⟨rfl,(((Ib _ _).alloc (By _) _).trans (hR.mono (by omega))).setCell (p:=⟨w0.heap.size,0,Y⟩) (By _) _⟩)
 have HC:Hid (∀W,Below w0.heap.size w0 W->W.heap[w.heap.size]?=Z (AT #[O J id,AI aB,AI cut,O J code,I name,O J an,U Y 0 0] 43 (0,0))):=λW hW=>(hW.block _ vz).trans dt;clear j6 kO hsa dt rC ef;refine fw.out.mono ?_;rintro e w1 ⟨rfl,al⟩;have aR:Hid (Below w.heap.size w w1):=dy.out.trans (al.mono (Nat.le_of_lt vz));have bb:=HC.out w1 al;have c0:w1.cell? ⟨w.heap.size,0,Y⟩=Z (O J id):=af bb 0;have c1:w1.cell? ⟨w.heap.size,1,Y⟩=Z (AI aB):=af bb 1;have c2:w1.cell? ⟨w.heap.size,2,Y⟩=Z (AI cut):=af bb 2;have c3:w1.cell? ⟨w.heap.size,3,Y⟩=Z (O J code):=af bb 3;have c4:w1.cell? ⟨w.heap.size,4,Y⟩=Z (I name):=af bb 4;have c5:w1.cell? ⟨w.heap.size,5,Y⟩=Z (O J an):=af bb 5;have c6:w1.cell? ⟨w.heap.size,6,Y⟩=Z (U Y 0 0):=af bb 6;clear al bb fw HC;go_wp2_with fail;refine(NB.out _ aR.out).mono ?_;rintro e w2 ⟨rfl,aC⟩;have bw:Hid (Below w.heap.size w w2):=aR.out.trans (aC.mono aR.out.size);have G6:decide (512<(T.size:Int))=false:=by simp;omega
 clear aC;go_wp2_with fail;go_ret2;exact⟨rfl,bw.out⟩
theorem bo(n:Int):∀k,(fC n k).length=k
 |0=>rfl
 |k+1=>by simp[fC,bo n k]
theorem TT{n m:Int}{j:Nat}(hm:m=n/2^(8*j)):m%256=(((bt n j).toNat.toUInt8).toNat:Int):=by
 have hr:=zz n j;have h2:bt n j=m%256:=by
  unfold bt;rw[show(8*(j:Int)).toNat=8*j by omega,<- hm,QR]
 rw[h2];have h3:(m%256).toNat<256:=by omega
 have h4:((m%256).toNat.toUInt8).toNat=(m%256).toNat:=by
  simp[Nat.toUInt8];omega
 rw[h4];omega
end Go.Proofs.YtfidjlcdlakceaaGreatDoor
namespace Go.Proofs.YtfidjlcdlakceaaGreatDoor
open Go.RowKit Go.Lib
structure St(g:Nat)(t:ByteArray)(w:World)(T:Jc)(zs:Array Value)(a:Nat)(cs:Array Value)(W:World):Prop where
 dE:dR g t a W
 rd:Rd g w W
 qx:W.heap[w.heap.size]?=Z (AT zs T (0,0))
 bx:W.heap[w.heap.size+1]?=Z (AT cs T (0,0))
 lt:g<w.heap.size
theorem St.call{g a b:Nat}{t:ByteArray}{w W W':World}{T:Jc}{zs cs:Array Value}(h:St g t w T zs a cs W)(h1:Hid (dR g t b W'))(h2:Hid (Rd g W W')):St g t w T zs b cs W':=
 ⟨h1.out,h.rd.trans h2.out,(h2.out.block _ (Ia.1 h.qx).1 (by have:=h.lt;omega)).trans h.qx,(h2.out.block _ (Ia.1 h.bx).1 (by have:=h.lt;omega)).trans h.bx,h.lt⟩
theorem St.keep{g a:Nat}{t:ByteArray}{w W W':World}{T:Jc}{zs cs:Array Value}(h:St g t w T zs a cs W)(h1:W.Extends W'):St g t w T zs a cs W':=
 h.call (h.dE.ext h1) (Rd.ext h1:Rd g W W')
theorem St.store{g a:Nat}{t:ByteArray}{w W:World}{T:Jc}{zs cs:Array Value}(h:St g t w T zs a cs W)(i:Nat)(v:Value):St g t w T zs a (cs.setIfInBounds i v) (W.setCell ⟨w.heap.size+1,i,Y⟩ v) where
 dE:=⟨(JF _ _ _ _ (by have:=h.lt;intro e;simp at e)).trans h.dE.c0,(JF _ _ _ _ (by have:=h.lt;intro e;simp at e)).trans h.dE.c1,by simpa using h.dE.hz,by simpa using h.dE.hg⟩
 rd:=⟨h.rd.os,h.rd.tape,h.rd.output,by simpa using h.rd.size,λk hk hg=>(IB W _ v k (by simp;omega)).trans (h.rd.block k hk hg)⟩
 qx:=(IB W _ v _ (by simp)).trans h.qx
 bx:=Is h.bx v
 lt:=h.lt
theorem St.cell{g a:Nat}{t:ByteArray}{w W:World}{T:Jc}{zs cs:Array Value}(h:St g t w T zs a cs W)(i:Nat):W.cell? ⟨w.heap.size+1,i,Y⟩=cs[i]?:=af h.bx i
theorem St.free{g a:Nat}{t:ByteArray}{w W:World}{T:Jc}{zs cs:Array Value}(h:St g t w T zs a cs W)(i:Nat):W.frozen? ⟨w.heap.size+1,i,Y⟩=false:=by simp[Ig,h.bx]
theorem St.fK{g a:Nat}{t:ByteArray}{w W:World}{T:Jc}{zs cs:Array Value}(h:St g t w T zs a cs W)(i:Nat):W.cell? ⟨w.heap.size,i,Y⟩=zs[i]?:=af h.qx i
theorem St.fL{g a:Nat}{t:ByteArray}{w W:World}{T:Jc}{zs cs:Array Value}(h:St g t w T zs a cs W)(i:Nat):W.frozen? ⟨w.heap.size,i,Y⟩=false:=by simp[Ig,h.qx]
theorem Rd.put{g b:Nat}{w W:World}(h:Rd g w W)(i:Nat)(v:Value)(hb:w.heap.size<=b):Rd g w (W.setCell ⟨b,i,Y⟩ v):=
 ⟨h.os,h.tape,h.output,by simpa using h.size,λk hk hg=>(IB W _ v k (by simp;omega)).trans (h.block k hk hg)⟩
abbrev aQ:Array Value:=#[O J 0,AI false,AI false,O J 0,I ⟨#[]⟩,O J 0,U Y 0 0]
theorem wH(g id code an p:Nat)(ls:List ByteArray)(t:ByteArray)(w:World)(h:dR g t 0 w)(hs:t.size<=1000)(e0:ax t 0 2=id)(e2:ax t 2 1=0)(e3:ax t 3 1=code)(e4:ax t 4 2=1)(e6:ax t 6 2=0)(e8:ax t 8 2=0)(e10:ax t 10 2=0)(tr:uc t 12 ls)(lj:∀l∈ls,aN l=true)(hn:ls.length<=8)(hz:(jn (ls.map xz)).length<=100000)(hp:behind 12 ls+1=p)(ep:ax t p 2=an)(eq:ax t (p+2) 2=1)(h12:12<=p)(bA:p+4=t.size) :
 Calls be 52 #[If (Z ⟨g,0,Y⟩)] w λe w'=>e=sh (sx id code an false false (mk (jn (ls.map xz))))/\Hid (Rd g w w'):=by
 have HN:Hid (∀W,dR g t 12 W->Calls be 102 #[If (Z ⟨g,0,Y⟩)] W λe w'=>e=sh (I (mk (jn (ls.map xz))))/\Hid (dR g t p w')/\Hid (Rd g W w')):=λW hW=>by
  subst hp;exact Fo g 12 ls t W hW hs tr lj hn hz
 have HI:Hid (dR g t 0 w):=h;have hg:=h.hg;have E0:Hid (ax t 0 2=id):=e0;have E2:Hid (ax t 2 1=0):=e2;have E3:Hid (ax t 3 1=code):=e3;have E4:Hid (ax t 4 2=1):=e4;have E6:Hid (ax t 6 2=0):=e6;have E8:Hid (ax t 8 2=0):=e8;have E10:Hid (ax t 10 2=0):=e10;have EP:Hid (ax t p 2=an):=ep;have EQ:Hid (ax t (p+2) 2=1):=eq;have HZ:Hid (p+4=t.size):=bA;have lP:p+4<=t.size:=Nat.le_of_eq bA;clear h e0 e2 e3 e4 e6 e8 e10 ep eq tr lj hn hz hp bA;generalize mk (jn (ls.map xz))=R at *;go_enter Tryz.func52,Tryz.ntmps52;go_wp2_with fail;obtain⟨w0,dJ⟩:∃w0,w0=(w.alloc (AT aQ 43)).alloc (AT aQ 43):=⟨_,rfl⟩;rw[<- dJ];have S0:Hid (St g t w 43 aQ 0 aQ w0):=(show St _ _ _ _ _ _ _ _ by
  have hx:w.Extends w0:=by rw[dJ];exact((Iy w).alloc _).alloc _
  refine⟨HI.out.ext hx,Rd.ext hx,?_,?_,hg⟩
  .rw[dJ]
   exact(I9 _ _ _ (by simp)).trans (Ie w _)
  .rw[dJ]
   have:=Ie (w.alloc (AT aQ 43)) (AT aQ 43);simpa using this)
 clear dJ;refine(dw g 0 2 t w0 S0.out.dE hs (by omega) (by omega)).mono ?_;rintro e w1 ⟨rfl,h1,h2⟩;rw[E0.out];have S1:Hid (St g t w 43 aQ 2 aQ w1):=S0.out.call h1 h2;have z1:=S1.out.free 0;have c1:w1.cell? ⟨w.heap.size+1,0,Y⟩=Z (O J 0):=S1.out.cell 0;clear h1 h2 S0;go_wp2_with fail;have S2:Hid (St g t w 43 aQ 2 #[O J id,AI false,AI false,O J 0,I ⟨#[]⟩,O J 0,U Y 0 0] (w1.setCell ⟨w.heap.size+1,0,Y⟩ (O J id))):=S1.out.store 0 (O J id);refine(dw g 2 1 t _ S2.out.dE hs (by omega) (by omega)).mono ?_;rintro e w2 ⟨rfl,h1,h2⟩;rw[E2.out];have S3:Hid (St g t w 43 aQ 3 #[O J id,AI false,AI false,O J 0,I ⟨#[]⟩,O J 0,U Y 0 0] w2):=S2.out.call h1 h2;have z1:=S3.out.free 1;have z2:=S3.out.free 2;have c0:w2.cell? ⟨w.heap.size+1,0,Y⟩=Z (O J id):=S3.out.cell 0;have c1:w2.cell? ⟨w.heap.size+1,1,Y⟩=Z (AI false):=S3.out.cell 1;have c2:w2.cell? ⟨w.heap.size+1,2,Y⟩=Z (AI false):=S3.out.cell 2;have c3:w2.cell? ⟨w.heap.size+1,3,Y⟩=Z (O J 0):=S3.out.cell 3;have c4:w2.cell? ⟨w.heap.size+1,4,Y⟩=Z (I ⟨#[]⟩):=S3.out.cell 4;have c5:w2.cell? ⟨w.heap.size+1,5,Y⟩=Z (O J 0):=S3.out.cell 5;have c6:w2.cell? ⟨w.heap.size+1,6,Y⟩=Z (U Y 0 0):=S3.out.cell 6;have al:bits .and J 0 128=0:=by decide
 have aC:bits .and J 0 2=0:=by decide
 clear h1 h2 S1 S2;go_wp2_with fail;have S4:Hid (St g t w 43 aQ 3 #[O J id,AI false,AI false,O J 0,I ⟨#[]⟩,O J 0,U Y 0 0] ((w2.setCell ⟨w.heap.size+1,1,Y⟩ (AI false)).setCell ⟨w.heap.size+1,2,Y⟩ (AI false))):=(S3.out.store 1 (AI false)).store 2 (AI false);refine(nx id 0 0 false false ⟨#[]⟩ _).mono ?_;rintro e w3 ⟨rfl,o,zN⟩;rw[show pc false false=0 from rfl];have S5:Hid (St g t w 43 aQ 3 #[O J id,AI false,AI false,O J 0,I ⟨#[]⟩,O J 0,U Y 0 0] w3):=(show St _ _ _ _ _ _ _ _ by rw[zN];exact S4.out.keep ((Iy _).alloc _));clear zN z1 z2 c0 c1 c2 c3 c4 c5 c6 S3 S4;go_wp2_with fail;refine(cy _ _).mono ?_;rintro e w4 ⟨rfl,yD⟩;subst yD;go_wp2_with fail;refine(dw g 3 1 t _ S5.out.dE hs (by omega) (by omega)).mono ?_;rintro e w5 ⟨rfl,h1,h2⟩;rw[E3.out];have S6:Hid (St g t w 43 aQ 4 #[O J id,AI false,AI false,O J 0,I ⟨#[]⟩,O J 0,U Y 0 0] w5):=S5.out.call h1 h2;have z3:=S6.out.free 3;have c3:w5.cell? ⟨w.heap.size+1,3,Y⟩=Z (O J 0):=S6.out.cell 3;clear h1 h2 S5;go_wp2_with fail;have S7:Hid (St g t w 43 aQ 4 #[O J id,AI false,AI false,O J code,I ⟨#[]⟩,O J 0,U Y 0 0] (w5.setCell ⟨w.heap.size+1,3,Y⟩ (O J code))):=S6.out.store 3 (O J code);refine(eP g 4 2 1 t _ S7.out.dE hs (by omega) (by omega) E4.out).mono ?_;rintro e w6 ⟨rfl,h1,h2⟩;have S8:Hid (St g t w 43 aQ 6 #[O J id,AI false,AI false,O J code,I ⟨#[]⟩,O J 0,U Y 0 0] w6):=S7.out.call h1 h2;clear h1 h2 S6 S7 z3 c3;go_wp2_with fail;refine(dw g 6 2 t _ S8.out.dE hs (by omega) (by omega)).mono ?_;rintro e w7 ⟨rfl,h1,h2⟩;rw[E6.out];have S9:Hid (St g t w 43 aQ 8 #[O J id,AI false,AI false,O J code,I ⟨#[]⟩,O J 0,U Y 0 0] w7):=S8.out.call h1 h2;clear h1 h2 S8;go_wp2_with fail;refine(eP g 8 2 0 t _ S9.out.dE hs (by omega) (by omega) E8.out).mono ?_;rintro e w8 ⟨rfl,h1,h2⟩;have SA:Hid (St g t w 43 aQ 10 #[O J id,AI false,AI false,O J code,I ⟨#[]⟩,O J 0,U Y 0 0] w8):=S9.out.call h1 h2;clear h1 h2 S9;go_wp2_with fail;refine(eP g 10 2 0 t _ SA.out.dE hs (by omega) (by omega) E10.out).mono ?_;rintro e w9 ⟨rfl,h1,h2⟩;have SB:Hid (St g t w 43 aQ 12 #[O J id,AI false,AI false,O J code,I ⟨#[]⟩,O J 0,U Y 0 0] w9):=SA.out.call h1 h2;clear h1 h2 SA;go_wp2_with fail;refine(HN.out _ SB.out.dE).mono ?_;rintro e wa ⟨rfl,h1,h2⟩;have SC:Hid (St g t w 43 aQ p #[O J id,AI false,AI false,O J code,I ⟨#[]⟩,O J 0,U Y 0 0] wa):=SB.out.call h1 h2;have z4:=SC.out.free 4;have c4:wa.cell? ⟨w.heap.size+1,4,Y⟩=Z (I ⟨#[]⟩):=SC.out.cell 4;clear h1 h2 SB;go_wp2_with fail;have SD:Hid (St g t w 43 aQ p #[O J id,AI false,AI false,O J code,I R,O J 0,U Y 0 0] (wa.setCell ⟨w.heap.size+1,4,Y⟩ (I R))):=SC.out.store 4 (I R);refine(dw g p 2 t _ SD.out.dE hs (by omega) (by omega)).mono ?_;rintro e wb ⟨rfl,h1,h2⟩;rw[EP.out];have SE:Hid (St g t w 43 aQ (p+2) #[O J id,AI false,AI false,O J code,I R,O J 0,U Y 0 0] wb):=SD.out.call h1 h2;have z5:=SE.out.free 5;have c5:wb.cell? ⟨w.heap.size+1,5,Y⟩=Z (O J 0):=SE.out.cell 5;clear h1 h2 SC SD z4 c4;go_wp2_with fail;have SF:Hid (St g t w 43 aQ (p+2) #[O J id,AI false,AI false,O J code,I R,O J an,U Y 0 0] (wb.setCell ⟨w.heap.size+1,5,Y⟩ (O J an))):=SE.out.store 5 (O J an);refine(eP g (p+2) 2 1 t _ SF.out.dE hs (by omega) (by omega) EQ.out).mono ?_;rintro e wc ⟨rfl,h1,h2⟩;have SG:Hid (St g t w 43 aQ (p+4) #[O J id,AI false,AI false,O J code,I R,O J an,U Y 0 0] wc):=SF.out.call h1 h2;have ct:wc.cell? ⟨g,0,Y⟩=Z (I t):=SG.out.dE.c0;have ca:wc.cell? ⟨g,1,Y⟩=Z (O J t.size):=(show wc.cell? ⟨g,1,Y⟩=Z (O J t.size) by
  rw[<- HZ.out];exact SG.out.dE.c1)
 clear h1 h2 SE SF z5 c5;go_wp2_with fail;have m0:wc.cell? ⟨w.heap.size+1,0,Y⟩=Z (O J id):=SG.out.cell 0;have m1:wc.cell? ⟨w.heap.size+1,1,Y⟩=Z (AI false):=SG.out.cell 1;have m2:wc.cell? ⟨w.heap.size+1,2,Y⟩=Z (AI false):=SG.out.cell 2;have m3:wc.cell? ⟨w.heap.size+1,3,Y⟩=Z (O J code):=SG.out.cell 3;have m4:wc.cell? ⟨w.heap.size+1,4,Y⟩=Z (I R):=SG.out.cell 4;have m5:wc.cell? ⟨w.heap.size+1,5,Y⟩=Z (O J an):=SG.out.cell 5;have m6:wc.cell? ⟨w.heap.size+1,6,Y⟩=Z (U Y 0 0):=SG.out.cell 6;have q0:wc.cell? ⟨w.heap.size,0,Y⟩=Z (O J 0):=SG.out.fK 0;have y0:=SG.out.fL 0;have q1:wc.cell? ⟨w.heap.size,1,Y⟩=Z (AI false):=SG.out.fK 1;have y1:=SG.out.fL 1;have q2:wc.cell? ⟨w.heap.size,2,Y⟩=Z (AI false):=SG.out.fK 2;have y2:=SG.out.fL 2;have q3:wc.cell? ⟨w.heap.size,3,Y⟩=Z (O J 0):=SG.out.fK 3;have y3:=SG.out.fL 3;have q4:wc.cell? ⟨w.heap.size,4,Y⟩=Z (I ⟨#[]⟩):=SG.out.fK 4;have y4:=SG.out.fL 4;have q5:wc.cell? ⟨w.heap.size,5,Y⟩=Z (O J 0):=SG.out.fK 5;have y5:=SG.out.fL 5;have q6:wc.cell? ⟨w.heap.size,6,Y⟩=Z (U Y 0 0):=SG.out.fK 6;have y6:=SG.out.fL 6;go_loopw [46] (λi wr=>i=O J 0/\wr=wc) (λ_ _=>0)
 case atStart=>exact⟨rfl,rfl⟩
 case round=>
  obtain⟨rfl,WQ⟩:=hrel;subst WQ;go_wp2_with fail;go_region_held3 (λw'=>w'.cell? ⟨g,0,Y⟩=Z (I t)/\w'.cell? ⟨g,1,Y⟩=Z (O J t.size)) (go_keep) (first|(go_at_call 69;refine(cy _ _).mono ?_;rintro e w5 ⟨rfl,rfl⟩)|fail)
  go_wp2_with fail;refine Ix (v:=sx id code an false false R) ?_ rfl ⟨rfl,?_⟩
  .simp[results,Tryz.results52,go_sem,q0,q1,q2,q3,q4,q5,q6]
  .exact(Rd.trans (((((((SG.out.rd.put 0 _ (By _)).put 1 _ (By _)).put 2 _ (By _)).put 3 _ (By _)).put 4 _ (By _)).put 5 _ (By _)).put 6 _ (By _)) (Rd.ext (Iy _).drew):Rd g w _)
structure Reads(t:ByteArray)(id code an:Nat)(R:ByteArray):Prop where
 go:∀(g:Nat) (w:World),dR g t 0 w->Calls be 52 #[If (Z ⟨g,0,Y⟩)] w λe w'=>e=sh (sx id code an false false R)/\Hid (Rd g w w')
theorem frozenAt{W:World}{g:Nat}{cs:Array Value}{T:Jc}(h:W.heap[g]?=Z (AT cs T (0,0)))(i:Nat):W.frozen? ⟨g,i,Y⟩=false:=by simp[Ig,h]
theorem Rd.here{g:Nat}{w W:World}(h:Rd g w W)(i:Nat)(v:Value):Rd g w (W.setCell ⟨g,i,Y⟩ v):=
 ⟨h.os,h.tape,h.output,by simpa using h.size,λk hk hg=>(IB W _ v k (by simpa using hg)).trans (h.block k hk hg)⟩
theorem R6(gs gm id code an:Nat)(R t:ByteArray)(w:World)(hr:Reads t id code an R)(uf:w.heap[gs]?=Z (AT #[I t] 9 (0,0)))(kO:w.heap[gm]?=Z (AT aQ 43 (0,0)))(h1:within (id:Int) 0 65535=true)(h2:within (code:Int) 0 15=true)(hs:R.size<=Ij)(hn:bT R=0)(ht:(decide ((an:Int)=1)||decide ((an:Int)=16)||decide ((an:Int)=33))=true) :
 Calls be 51 #[If (Z ⟨gs,0,Y⟩),If (Z ⟨gm,0,Y⟩)] w λr w'=>r=sh (Il #[])/\Hid (Rd gm w w')/\Hid (w'.heap[gm]?=Z (AT #[O J id,AI false,AI false,O J code,I R,O J an,U Y 0 0] 43 (0,0))):=by
 have HC:Hid (∀W,Calls be 28 #[.agg #[O J id,AI false,AI false,O J code,I R,O J an,U Y 0 0]] W λr w'=>r=sh (Il #[])/\Below W.heap.size W w'):=λW=>rA id code an false false R W h1 h2 hs hn ht;have HR:Hid (Reads t id code an R):=hr;have cs:w.cell? ⟨gs,0,Y⟩=Z (I t):=af uf 0;clear h1 h2 hs hn ht hr uf;have aL:gm<w.heap.size:=(Ia.1 kO).1;have HGM:Hid (w.heap[gm]?=Z (AT aQ 43 (0,0))):=kO;clear kO;go_enter Tryz.func51,Tryz.ntmps51;go_wp2_with fail;have Mh:w.Extends (w.alloc (AT #[I t,O J 0] 107)):=(Iy w).alloc _;have zQ:(w.alloc (AT #[I t,O J 0] 107)).heap[w.heap.size]?=Z (AT #[I t,O J 0] 107 (0,0)):=Ie w _;refine(HR.out.go w.heap.size _ ⟨af zQ 0,af zQ 1,frozenAt zQ 1,by simp⟩).mono ?_;rintro e w1 ⟨rfl,h2⟩;have al:Below w.heap.size w w1:=((Ib _ _).alloc (By _) _).trans (h2.out.below (By _) (by simp));have jF:Hid (Rd gm w w1):=Rd.fJ al (By _);have bb:w1.heap[gm]?=Z (AT aQ 43 (0,0)):=(al.block gm aL).trans HGM.out;have eY:gm<w1.heap.size:=(Ia.1 bb).1;have c0:w1.cell? ⟨gm,0,Y⟩=Z (O J 0):=af bb 0;have z0:w1.frozen? ⟨gm,0,Y⟩=false:=by simp[Ig,bb]
 have c1:w1.cell? ⟨gm,1,Y⟩=Z (AI false):=af bb 1;have z1:w1.frozen? ⟨gm,1,Y⟩=false:=by simp[Ig,bb]
 have c2:w1.cell? ⟨gm,2,Y⟩=Z (AI false):=af bb 2;have z2:w1.frozen? ⟨gm,2,Y⟩=false:=by simp[Ig,bb]
 have c3:w1.cell? ⟨gm,3,Y⟩=Z (O J 0):=af bb 3;have z3:w1.frozen? ⟨gm,3,Y⟩=false:=by simp[Ig,bb]
 have c4:w1.cell? ⟨gm,4,Y⟩=Z (I ⟨#[]⟩):=af bb 4;have z4:w1.frozen? ⟨gm,4,Y⟩=false:=by simp[Ig,bb]
 have c5:w1.cell? ⟨gm,5,Y⟩=Z (O J 0):=af bb 5;have z5:w1.frozen? ⟨gm,5,Y⟩=false:=by simp[Ig,bb]
 have c6:w1.cell? ⟨gm,6,Y⟩=Z (U Y 0 0):=af bb 6;have z6:w1.frozen? ⟨gm,6,Y⟩=false:=by simp[Ig,bb]
 have oq:Hid ((((((((w1.setCell ⟨gm,0,Y⟩ (O J id)).setCell ⟨gm,1,Y⟩ (AI false)).setCell ⟨gm,2,Y⟩ (AI false)).setCell ⟨gm,3,Y⟩ (O J code)).setCell ⟨gm,4,Y⟩ (I R)).setCell ⟨gm,5,Y⟩ (O J an)).setCell ⟨gm,6,Y⟩ (U Y 0 0)).heap[gm]?=Z (AT #[O J id,AI false,AI false,O J code,I R,O J an,U Y 0 0] 43 (0,0))):=(Is (i:=6) (Is (i:=5) (Is (i:=4) (Is (i:=3) (Is (i:=2) (Is (i:=1) (Is (i:=0) bb (O J id)) (AI false)) (AI false)) (O J code)) (I R)) (O J an)) (U Y 0 0));have lQ:Hid (Rd gm w (((((((w1.setCell ⟨gm,0,Y⟩ (O J id)).setCell ⟨gm,1,Y⟩ (AI false)).setCell ⟨gm,2,Y⟩ (AI false)).setCell ⟨gm,3,Y⟩ (O J code)).setCell ⟨gm,4,Y⟩ (I R)).setCell ⟨gm,5,Y⟩ (O J an)).setCell ⟨gm,6,Y⟩ (U Y 0 0))):=((((((((jF.out).here 0 _).here 1 _).here 2 _).here 3 _).here 4 _).here 5 _).here 6 _);clear h2 al Mh zQ bb jF;go_wp2_with fail;refine(HC.out _).mono ?_;rintro e w2 ⟨rfl,aC⟩;have bw:Hid (Below (((((((w1.setCell ⟨gm,0,Y⟩ (O J id)).setCell ⟨gm,1,Y⟩ (AI false)).setCell ⟨gm,2,Y⟩ (AI false)).setCell ⟨gm,3,Y⟩ (O J code)).setCell ⟨gm,4,Y⟩ (I R)).setCell ⟨gm,5,Y⟩ (O J an)).setCell ⟨gm,6,Y⟩ (U Y 0 0)).heap.size (((((((w1.setCell ⟨gm,0,Y⟩ (O J id)).setCell ⟨gm,1,Y⟩ (AI false)).setCell ⟨gm,2,Y⟩ (AI false)).setCell ⟨gm,3,Y⟩ (O J code)).setCell ⟨gm,4,Y⟩ (I R)).setCell ⟨gm,5,Y⟩ (O J an)).setCell ⟨gm,6,Y⟩ (U Y 0 0)) w2):=aC;clear aC;go_wp2_with fail;simp[Jk,results,Tryz.results51];refine⟨lQ.out.trans (Rd.fJ bw.out (By _)),?_⟩;exact(bw.out.block gm (by simp;exact eY)).trans oq.out
theorem G8(id code an:Nat)(R t:ByteArray)(w:World)(hr:Reads t id code an R)(hl:t.size<=512)(h1:within (id:Int) 0 65535=true)(h2:within (code:Int) 0 15=true)(hs:R.size<=Ij)(hn:bT R=0)(ht:(decide ((an:Int)=1)||decide ((an:Int)=16)||decide ((an:Int)=33))=true) :
 Calls be 19 #[I t] w λe w'=>e=sh (Il #[sx id code an false false R,O J 0])/\Below w.heap.size w w':=by
 have rC:Hid (∀(gs gm:Nat) (W:World),W.heap[gs]?=Z (AT #[I t] 9 (0,0))->W.heap[gm]?=Z (AT aQ 43 (0,0))->Calls be 51 #[If (Z ⟨gs,0,Y⟩),If (Z ⟨gm,0,Y⟩)] W λr w'=>r=sh (Il #[])/\Hid (Rd gm W w')/\Hid (w'.heap[gm]?=Z (AT #[O J id,AI false,AI false,O J code,I R,O J an,U Y 0 0] 43 (0,0)))):=λgs gm W uf kO=>R6 gs gm id code an R t W hr uf kO h1 h2 hs hn ht;have ef:∀args W,(callFunc 51 args).run be W=.ok (.enter 51 args) W:=enters_of Tryz.func51 (by kernel_rfl) rfl;have G6:decide (512<(t.size:Int))=false:=by simp;omega
 clear h1 h2 hs hn ht hl hr;go_enter Tryz.func19,Tryz.ntmps19;go_wp2_with fail;obtain⟨w0,dJ⟩:∃w0,w0=((w.alloc (AT #[I t] 9)).alloc (AT aQ 43)).alloc (AT aQ 43):=⟨_,rfl⟩;rw[<- dJ];have X6:w0.heap.size=w.heap.size+1+1+1:=by rw[dJ];simp
 have dy:Hid (Below w.heap.size w w0):=(show Below _ _ _ by rw[dJ];exact(((Ib _ _).alloc (By _) _).alloc (by simp) _).alloc (by simp;omega) _);have uf:w0.heap[w.heap.size]?=Z (AT #[I t] 9 (0,0)):=by
  rw[dJ];exact(I9 _ _ _ (by simp;omega)).trans ((I9 _ _ _ (by simp)).trans (Ie w _))
 have Cv:w0.heap[w.heap.size+1]?=Z (AT aQ 43 (0,0)):=by
  rw[dJ];have h:=Ie (w.alloc (AT #[I t] 9)) (AT aQ 43);exact(I9 _ _ _ (by simp)).trans (by simpa using h)
 have kO:w0.heap[w.heap.size+1+1]?=Z (AT aQ 43 (0,0)):=by
  rw[dJ];have h:=Ie ((w.alloc (AT #[I t] 9)).alloc (AT aQ 43)) (AT aQ 43);simpa using h
 clear dJ;have j6:(w0.alloc (AT #[O J 0] 34)).heap[w0.heap.size]?=Z (AT #[O J 0] 34 (0,0)):=Ie w0 _;have fw:Hid (Calls be 26 #[.func (.func 51) #[] #[If (Z ⟨w.heap.size,0,Y⟩),If (Z ⟨w.heap.size+1+1,0,Y⟩)]] w0 λr w'=>r=sh (O J 0)/\Hid (Rd (w.heap.size+1+1) w0 w')/\Hid (w'.heap[w.heap.size+1+1]?=Z (AT #[O J id,AI false,AI false,O J code,I R,O J an,U Y 0 0] 43 (0,0)))):=(show Calls _ _ _ _ _ by
  refine(kV 51 #[If (Z ⟨w.heap.size,0,Y⟩),If (Z ⟨w.heap.size+1+1,0,Y⟩)] w0 (λW=>Rd (w.heap.size+1+1) (w0.alloc (AT #[O J 0] 34)) W/\W.heap[w.heap.size+1+1]?=Z (AT #[O J id,AI false,AI false,O J code,I R,O J an,U Y 0 0] 43 (0,0))) ef ?_).mono ?_
  .refine(rC.out w.heap.size (w.heap.size+1+1) _ ((I9 w0 _ _ (by omega)).trans uf) ((I9 w0 _ _ (by omega)).trans kO)).mono ?_
   rintro r w' ⟨rfl,hb,sg⟩;have hk:w'.heap[w0.heap.size]?=Z (AT #[O J 0] 34 (0,0)):=(hb.out.block _ (by simp) (by omega)).trans j6;exact⟨rfl,⟨hb.out,sg.out⟩,af hk 0,frozenAt hk 0,(Ia.1 hk).1⟩
  .rintro r w' ⟨rfl,w1,⟨hR,hk⟩,_,rfl⟩
   refine⟨rfl,(Rd.trans (Rd.ext ((Iy w0).alloc _)) hR).put 0 _ (By _),?_⟩;exact(IB w1 _ _ _ (by simp;omega)).trans hk)
 clear j6 uf kO rC ef;refine fw.out.mono ?_;rintro e w1 ⟨rfl,jF,jo⟩;have aR:Hid (Below w.heap.size w w1):=dy.out.trans (jF.out.below (by omega) (by omega));have iw:w1.heap[w.heap.size+1]?=Z (AT aQ 43 (0,0)):=(jF.out.block _ (by omega) (by omega)).trans Cv;have c0:w1.cell? ⟨w.heap.size+1+1,0,Y⟩=Z (O J id):=af jo.out 0;have q0:w1.cell? ⟨w.heap.size+1,0,Y⟩=Z (O J 0):=af iw 0;have y0:w1.frozen? ⟨w.heap.size+1,0,Y⟩=false:=frozenAt iw 0;have c1:w1.cell? ⟨w.heap.size+1+1,1,Y⟩=Z (AI false):=af jo.out 1;have q1:w1.cell? ⟨w.heap.size+1,1,Y⟩=Z (AI false):=af iw 1;have y1:w1.frozen? ⟨w.heap.size+1,1,Y⟩=false:=frozenAt iw 1;have c2:w1.cell? ⟨w.heap.size+1+1,2,Y⟩=Z (AI false):=af jo.out 2;have q2:w1.cell? ⟨w.heap.size+1,2,Y⟩=Z (AI false):=af iw 2;have y2:w1.frozen? ⟨w.heap.size+1,2,Y⟩=false:=frozenAt iw 2;have c3:w1.cell? ⟨w.heap.size+1+1,3,Y⟩=Z (O J code):=af jo.out 3;have q3:w1.cell? ⟨w.heap.size+1,3,Y⟩=Z (O J 0):=af iw 3;have y3:w1.frozen? ⟨w.heap.size+1,3,Y⟩=false:=frozenAt iw 3;have c4:w1.cell? ⟨w.heap.size+1+1,4,Y⟩=Z (I R):=af jo.out 4;have q4:w1.cell? ⟨w.heap.size+1,4,Y⟩=Z (I ⟨#[]⟩):=af iw 4;have y4:w1.frozen? ⟨w.heap.size+1,4,Y⟩=false:=frozenAt iw 4;have c5:w1.cell? ⟨w.heap.size+1+1,5,Y⟩=Z (O J an):=af jo.out 5;have q5:w1.cell? ⟨w.heap.size+1,5,Y⟩=Z (O J 0):=af iw 5;have y5:w1.frozen? ⟨w.heap.size+1,5,Y⟩=false:=frozenAt iw 5;have c6:w1.cell? ⟨w.heap.size+1+1,6,Y⟩=Z (U Y 0 0):=af jo.out 6;have q6:w1.cell? ⟨w.heap.size+1,6,Y⟩=Z (U Y 0 0):=af iw 6;have y6:w1.frozen? ⟨w.heap.size+1,6,Y⟩=false:=frozenAt iw 6;clear fw dy jF jo iw Cv;go_wp2_with fail;refine Ix (v:=Il #[sx id code an false false R,O J 0]) ?_ rfl ⟨rfl,?_⟩
 .simp[results,Tryz.results19,go_sem,q0,q1,q2,q3,q4,q5,q6]
 .exact(((((((aR.out.setCell (p:=⟨w.heap.size+1,0,Y⟩) (by simp) _).setCell (p:=⟨w.heap.size+1,1,Y⟩) (by simp) _).setCell (p:=⟨w.heap.size+1,2,Y⟩) (by simp) _).setCell (p:=⟨w.heap.size+1,3,Y⟩) (by simp) _).setCell (p:=⟨w.heap.size+1,4,Y⟩) (by simp) _).setCell (p:=⟨w.heap.size+1,5,Y⟩) (by simp) _).setCell (p:=⟨w.heap.size+1,6,Y⟩) (by simp) _)
end Go.Proofs.YtfidjlcdlakceaaGreatDoor
