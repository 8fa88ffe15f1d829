import Derived.Test.YtfidjlcdlakceaaGreatDoortf17
import Derived.Test.YtfidjlcdlakceaaGreatDoortf18
set_option maxHeartbeats 3200000
set_option maxRecDepth 100000
open List renaming append_assoc→I1,length_append→Ii,getElem?_eq_getElem→Ic,flatMap_cons→JY,getD→Io,flatMap_append→QG,take_succ_eq_append_getElem→Iw,take_length→OC
open Option renaming some→Z,none→Y
open Nat renaming le_refl→By,le_trans→Ir,lt_of_lt_of_le→Iv
open Go.Value renaming pointer→If,string→I,int→O,tuple→Il,agg→Im,bool→AI,slice→U
open Go.Ending renaming returned→sh
open Go.Proofs.Tryz renaming prog→be,func156→Uc,ntmps156→QS,results156→Qv,underlying41→O3
open Go.Obj renaming cells→AT
open Array renaming getElem?_eq_some_iff→Ia
open Go.World renaming cell?_setCell_other→JF,frozen?→Ig,cell?_of_block→Ol,news_of_block→Oo
open Go.Joins renaming block_setCell→Is
open Go.RowKit.Below renaming heap_setCell→IB,refl→Ib
open Go.IntKind renaming i64→J,wrap_i64→IK
open Go renaming bodyPost→Jk,heap_alloc_new→Ie,bodyPost_ret→Ix,maxLen→Ij,wpAny_ready→Je,wp_append_own→Uk
open ByteArray renaming size→JJ
open Bool renaming and_eq_true→IJ,or_eq_true→O2
open Go.World.Extends renaming refl→Iy
open Go.Lib renaming alloc_old→I9
open Go.AllReady renaming cons→IU,nil→I7
open Go.World.ownsRow renaming drew→Ql,alloc→J9
namespace Go.Proofs.YtfidjlcdlakceaaGreatDoor
open Go.RowKit
def qH(t:ByteArray)(a:Nat)(l:List UInt8):Prop:=∃p q,t.data.toList=p++(l++q)/\p.length=a
theorem qH.left{t:ByteArray}{a:Nat}{l m:List UInt8}(h:qH t a (l++m)):qH t a l:=by
 obtain⟨p,q,h1,h2⟩:=h;exact⟨p,m++q,by rw[h1,I1],h2⟩
theorem qH.right{t:ByteArray}{a:Nat}{l m:List UInt8}(h:qH t a (l++m)):qH t (a+l.length) m:=by
 obtain⟨p,q,h1,h2⟩:=h;exact⟨p++l,q,by rw[h1];simp,by rw[Ii,h2]⟩
theorem qH.size{t:ByteArray}{a:Nat}{l:List UInt8}(h:qH t a l):a+l.length<=t.size:=by
 obtain⟨p,q,h1,h2⟩:=h;have h3:t.size=t.data.toList.length:=by simp
 rw[h3,h1];simp;omega
theorem qH.get{t:ByteArray}{a:Nat}{l:List UInt8}(h:qH t a l)(k:Nat)(hk:k<l.length):t.data[a+k]?=Z l[k]:=by
 obtain⟨p,q,h1,h2⟩:=h;have h3:t.data[a+k]?=t.data.toList[a+k]?:=by simp
 rw[h3,h1,List.getElem?_append_right (by omega),show a+k-p.length=k by omega,List.getElem?_append_left hk,Ic hk]
theorem qH.extract{t l:ByteArray}{a:Nat}(h:qH t a l.data.toList):t.extract a (a+l.size)=l:=by
 obtain⟨p,q,h1,h2⟩:=h;apply jX;have h3:(t.extract a (a+l.size)).data.toList=(t.data.toList.drop a).take l.size:=by simp
 rw[h3,h1,show(p++(l.data.toList++q)).drop a=l.data.toList++q by rw[<- h2];simp];have h4:l.size=l.data.toList.length:=by simp
 rw[h4];simp
theorem NM(n:Int):∀(j k:Nat) (h:k<j),(fC n j)[k]'(by rw[bo];exact h)=(bt n (j-1-k)).toNat.toUInt8
 |0,k,h=>by omega
 |j+1,0,_=>by simp[fC]
 |j+1,k+1,h=>by
  have ih:=NM n j k (by omega);simp only[fC,List.getElem_cons_succ];rw[ih,show j+1-1-(k+1)=j-1-k by omega]
theorem AO{t:ByteArray}{a:Nat}{n:Int}(h0:0<=n):∀(k j:Nat),k<=j->qH t a (fC n j)->n<256^j->(ax t a k:Int)=n/256^(j-k)
 |0,j,_,_,hn=>by
  simp only[ax];rw[Int.ediv_eq_zero_of_lt h0 (by simpa using hn)];rfl
 |k+1,j,hk,h,hn=>by
  have ih:=AO h0 k j (by omega) h hn;have hg:=h.get k (by rw[bo];omega);simp only[ax,hg,Option.getD_some];have hb:((fC n j)[k]'(by rw[bo];omega))=(bt n (j-1-k)).toNat.toUInt8:=NM n j k (by omega);rw[hb,Int.natCast_add,Int.natCast_mul,ih];have e1:=TT (n:=n) (m:=n/2^(8*(j-1-k))) (j:=j-1-k) rfl;rw[<- e1];have e2:(2:Int)^(8*(j-1-k))=256^(j-(k+1)):=by
   rw[show j-1-k=j-(k+1) by omega,Int.pow_mul];rfl
  have e3:(256:Int)^(j-k)=256^(j-(k+1))*256:=by
   rw[show j-k=(j-(k+1))+1 by omega,Int.pow_succ]
  rw[e2,e3,<- Int.ediv_ediv_of_nonneg (Int.le_of_lt (Int.pow_pos (by decide)))];have:=Int.mul_ediv_add_emod (n/256^(j-(k+1))) 256;omega
theorem de{t:ByteArray}{a:Nat}{n:Int}{k:Nat}(h0:0<=n)(hn:n<256^k)(h:qH t a (fC n k)):(ax t a k:Int)=n:=by
 have h1:=AO h0 k k (By _) h hn;rw[h1,Nat.sub_self,Int.pow_zero,Int.ediv_one]
theorem AP{t:ByteArray}:∀(ls:List ByteArray) (a:Nat),(∀l∈ls,aN l=true)->qH t a (ls.flatMap il++fC 0 1)->uc t a ls/\behind a ls=a+(ls.flatMap il).length
 |[],a,_,h=>by
  have h1:qH t a (fC 0 1):=h;have h2:=h1.size;have h3:=de (n:=0) (by decide) (by decide) h1;rw[bo] at h2;exact⟨⟨h2,by omega⟩,rfl⟩
 |l::r,a,hl,h=>by
  have h30:=ub (hl l List.mem_cons_self);have h1:qH t a (fC l.size 1++(l.data.toList++(r.flatMap il++fC 0 1))):=by
   have e:(l::r).flatMap il++fC 0 1=fC l.size 1++(l.data.toList++(r.flatMap il++fC 0 1)):=by simp[il]
   rwa [e] at h
  have h2:=de (n:=l.size) (by omega) (by omega) h1.left;have h3:=h1.right;rw[bo] at h3;have h4:=h3.left.size;have h5:l.data.toList.length=l.size:=by simp
  rw[h5] at h4;have h6:=h3.right;rw[h5] at h6;obtain⟨i1,i2⟩:=AP r (a+1+l.size) (λx hx=>hl x (List.mem_cons_of_mem _ hx)) h6;refine⟨⟨by omega,h4,h3.left.extract,i1⟩,?_⟩;show behind (a+1+l.size) r=_;rw[i2];have h7:(il l).length=1+l.size:=by simp[il,bo]
  rw[JY,Ii,h7];omega
theorem sW{s:ByteArray}(h:bT s=0):(∀l∈gB s,aN l=true)/\(gB s).length<=8/\s.size<=1000:=by
 refine⟨?_,(kC h).1,?_⟩
 .rw[xB] at h
  split at h
  .omega
  .rename_i h1
   have h3:(gB s).all aN=true:=by simpa using h1
   exact λl hl=>List.all_eq_true.1 h3 l hl
 .by_cases h0:s.size=0
  .omega
  .unfold bT at h
   rw[if_neg h0] at h;split at h
   .omega
   .split at h<;>omega
theorem xC(s:ByteArray):mk (jn ((gB s).map xz))=s:=by
 unfold gB;split
 .rename_i h0
  have:=cO h0;subst this;rfl
 .have e:((gN s.data.toList).map mk).map xz=gN s.data.toList:=by
   rw[List.map_map]
   have:(xz∘mk)=id:=by funext x;exact jQ x
   rw[this,List.map_id]
  rw[e,Mt,mk_data]
theorem qI(g a:Nat)(s t:ByteArray)(w:World)(h:dR g t a w)(hs:t.size<=1000)(hn:bT s=0)(cA:qH t a (cG s)) :
 Calls be 102 #[If (Z ⟨g,0,Y⟩)] w λe w'=>e=sh (I s)/\Hid (dR g t (a+(cG s).length) w')/\Hid (Rd g w w'):=by
 obtain⟨h1,h2,h3⟩:=sW hn;obtain⟨i1,i2⟩:=AP (gB s) a h1 cA;have hj:(jn ((gB s).map xz)).length=s.size:=by
  have h4:=congrArg (λx:ByteArray=>x.size) (xC s);simp only[gZ] at h4;exact h4
 have hw:(cG s).length=((gB s).flatMap il).length+1:=by
  unfold cG;rw[Ii,bo]
 have h:=Fo g a (gB s) t w h hs i1 h1 h2 (by omega);rw[xC,i2] at h;rw[hw,<- Nat.add_assoc];exact h
end Go.Proofs.YtfidjlcdlakceaaGreatDoor
namespace Go.Proofs
open Go.Shelf
def Tryz.yJ:Go.Shelf.Ren:=⟨fun|316=>252|n=>n,fun|9=>9|3=>3|4=>4|37=>127|0=>0|127=>186|5=>5|n=>n,fun|n=>n⟩
theorem Tryz.NN:Go.Proofs.LaysM.n316 be Tryz.yJ:={
 mixed:=by kernel_rfl
 f316:=Tryz.func252.trans (congrArg Z (by kernel_rfl))
 t0:=Tryz.underlying0
 a0:=Tryz.isAgg0
 z0:=Tryz.sizeOf0
 v0:=Tryz.zeroValue0
 t3:=Tryz.underlying3
 a3:=Tryz.isAgg3
 z3:=Tryz.sizeOf3
 v3:=Tryz.zeroValue3
 t4:=Tryz.underlying4
 a4:=Tryz.isAgg4
 z4:=Tryz.sizeOf4
 v4:=Tryz.zeroValue4
 t9:=Tryz.underlying9
 a9:=Tryz.isAgg9
 z9:=Tryz.sizeOf9
 v9:=Tryz.zeroValue9
 t37:=Tryz.underlying127
 a37:=Tryz.isAgg127
 z37:=Tryz.sizeOf127
 v37:=Tryz.zeroValue127
 t127:=Tryz.underlying186
 a127:=Tryz.isAgg186
 z127:=Tryz.sizeOf186
 v127:=Tryz.zeroValue186
 t5:=Tryz.underlying5
 a5:=Tryz.isAgg5
 z5:=Tryz.sizeOf5
 v5:=Tryz.zeroValue5
 i0:=by kernel_rfl
 i3:=by kernel_rfl
 i4:=by kernel_rfl
 i5:=by kernel_rfl
 i9:=by kernel_rfl
 i37:=by kernel_rfl
 i127:=by kernel_rfl }
open Go.RowKit in
theorem Tryz.stringslite_Clone(s:ByteArray)(w:World)(ahf:s.size<=281474976710656) :
 Calls be 252 #[I s] w λe w'=>e=sh (I s)/\Below w.heap.size w w':=Any.stringslite_Clone Tryz.NN s w ahf
end Go.Proofs
namespace Go.Proofs.YtfidjlcdlakceaaGreatDoor
open Go.RowKit
structure Rx(g X:Nat)(t:ByteArray)(w:World)(a:Nat)(cs:Array Value)(W:World):Prop where
 dE:dR g t a W
 bx:W.heap[X]?=Z (AT cs 64 (0,0))
 os:W.os=w.os
 tape:W.tape=w.tape
 output:W.output=w.output
 size:w.heap.size<=W.heap.size
 block:∀k:Nat,k<w.heap.size->k≠g->k≠X->W.heap[k]?=w.heap[k]?
 ne:g≠X
theorem Rx.call{g X a b:Nat}{t:ByteArray}{w W W':World}{cs:Array Value}(h:Rx g X t w a cs W)(h1:Hid (dR g t b W'))(h2:Hid (Rd g W W')):Rx g X t w b cs W':=
 ⟨h1.out,(h2.out.block X (Ia.1 h.bx).1 (Ne.symm h.ne)).trans h.bx,h2.out.os.trans h.os,h2.out.tape.trans h.tape,h2.out.output.trans h.output,Ir h.size h2.out.size,λk hk h3 h4=>(h2.out.block k (Iv hk h.size) h3).trans (h.block k hk h3 h4),h.ne⟩
theorem Rx.below{g X a:Nat}{t:ByteArray}{w W W':World}{cs:Array Value}(h:Rx g X t w a cs W)(hb:Below W.heap.size W W'):Rx g X t w a cs W':=
 h.call (h.dE.below hb h.dE.hg) (Rd.fJ hb (By _):Rd g W W')
theorem Rx.store{g X a:Nat}{t:ByteArray}{w W:World}{cs:Array Value}(h:Rx g X t w a cs W)(i:Nat)(v:Value):Rx g X t w a (cs.setIfInBounds i v) (W.setCell ⟨X,i,Y⟩ v) where
 dE:=⟨(JF _ _ _ _ (by have:=h.ne;intro e;simp at e)).trans h.dE.c0,(JF _ _ _ _ (by have:=h.ne;intro e;simp at e)).trans h.dE.c1,by simpa using h.dE.hz,by simpa using h.dE.hg⟩
 bx:=Is h.bx v
 os:=h.os
 tape:=h.tape
 output:=h.output
 size:=by simpa using h.size
 block:=λk hk h3 h4=>(IB W _ v k (by simpa using h4)).trans (h.block k hk h3 h4)
 ne:=h.ne
theorem Rx.cell{g X a:Nat}{t:ByteArray}{w W:World}{cs:Array Value}(h:Rx g X t w a cs W)(i:Nat):W.cell? ⟨X,i,Y⟩=cs[i]?:=af h.bx i
theorem Rx.free{g X a:Nat}{t:ByteArray}{w W:World}{cs:Array Value}(h:Rx g X t w a cs W)(i:Nat):W.frozen? ⟨X,i,Y⟩=false:=by simp[Ig,h.bx]
theorem ud(s:ByteArray)(w:World)(hs:s.size<=1000) :
 Calls be 214 #[I s] w λe w'=>e=sh (I s)/\Below w.heap.size w w':=by
 have HC:Hid (Calls be 252 #[I s] w λe w'=>e=sh (I s)/\Below w.heap.size w w'):=Tryz.stringslite_Clone s w (by omega);go_enter Tryz.func214,Tryz.ntmps214;go_wp2_with fail;refine HC.out.mono ?_;rintro e w1 ⟨rfl,hb⟩;go_wp2_with fail;go_ret;exact⟨rfl,hb⟩
theorem TU(g X a:Nat)(t nm:ByteArray)(la ad:Int)(w W:World)(h:Rx g X t w a #[I nm,O J 1,O J la,O J 0,I ⟨#[]⟩,O J 0,I ⟨#[]⟩] W)(hs:t.size<=1000)(h0:0<=ad)(h1:ad<256^4)(cA:qH t a (fC ad 4)) :
 Calls be 156 #[If (Z ⟨g,0,Y⟩),If (Z ⟨X,0,Y⟩)] W λe w'=>e=sh (Il #[])/\Rx g X t w (a+4) #[I nm,O J 1,O J la,O J ad,I ⟨#[]⟩,O J 0,I ⟨#[]⟩] w':=by
 have hr:=de h0 h1 cA;have bA:=cA.size;rw[bo] at bA;have H:Hid (Rx g X t w a #[I nm,O J 1,O J la,O J 0,I ⟨#[]⟩,O J 0,I ⟨#[]⟩] W):=h;have HN:Hid (Calls be 99 #[If (Z ⟨g,0,Y⟩),O J 4] W λe w'=>e=sh (O J ad)/\Hid (dR g t (a+4) w')/\Hid (Rd g W w')):=(show Calls _ _ _ _ _ by
  have h:=dw g a 4 t W H.out.dE hs bA (by omega);rw[hr] at h;exact h)
 have c1:W.cell? ⟨X,1,Y⟩=Z (O J 1):=h.cell 1;clear h cA hr h0 h1;go_enter Uc,QS;go_wp2_with fail;refine HN.out.mono ?_;rintro e w1 ⟨rfl,h1,h2⟩;have H1:Hid (Rx g X t w (a+4) #[I nm,O J 1,O J la,O J 0,I ⟨#[]⟩,O J 0,I ⟨#[]⟩] w1):=H.out.call h1 h2;have c3:w1.cell? ⟨X,3,Y⟩=Z (O J 0):=H1.out.cell 3;have z3:=H1.out.free 3;clear h1 h2;go_wp2_with fail;simp[Jk,results,Qv];exact H1.out.store 3 (O J ad)
theorem NO(g X a:Nat)(t nm tx:ByteArray)(la:Int)(w W:World)(h:Rx g X t w a #[I nm,O J 16,O J la,O J 0,I ⟨#[]⟩,O J 0,I ⟨#[]⟩] W)(hs:t.size<=1000)(htx:tx.size<=200)(cA:qH t a (fC tx.size 1++tx.data.toList)) :
 Calls be 156 #[If (Z ⟨g,0,Y⟩),If (Z ⟨X,0,Y⟩)] W λe w'=>e=sh (Il #[])/\Rx g X t w (a+1+tx.size) #[I nm,O J 16,O J la,O J 0,I tx,O J 0,I ⟨#[]⟩] w':=by
 have hr:=de (n:=tx.size) (by omega) (by omega) cA.left;have bA:=cA.size;have hl:tx.data.toList.length=tx.size:=by simp
 rw[Ii,bo,hl] at bA;have hex:t.extract (a+1) (a+1+tx.size)=tx:=by
  have h2:=cA.right;rw[bo] at h2;exact h2.extract
 have H:Hid (Rx g X t w a #[I nm,O J 16,O J la,O J 0,I ⟨#[]⟩,O J 0,I ⟨#[]⟩] W):=h;have HN:Hid (Calls be 155 #[If (Z ⟨g,0,Y⟩)] W λe w'=>e=sh (I tx)/\Hid (dR g t (a+1+tx.size) w')/\Hid (Rd g W w')):=qG g a tx.size t tx W h.dE hs (by omega) (by omega) hex;have HCL:Hid (∀W,Calls be 214 #[I tx] W λe w'=>e=sh (I tx)/\Below W.heap.size W w'):=λW=>ud tx W (by omega);have c1:W.cell? ⟨X,1,Y⟩=Z (O J 16):=h.cell 1;clear h cA hr hex;go_enter Uc,QS;go_wp2_with fail;refine HN.out.mono ?_;rintro e w1 ⟨rfl,h1,h2⟩;have H1:Hid (Rx g X t w (a+1+tx.size) #[I nm,O J 16,O J la,O J 0,I ⟨#[]⟩,O J 0,I ⟨#[]⟩] w1):=H.out.call h1 h2;clear h1 h2;go_wp2_with fail;refine(HCL.out w1).mono ?_;rintro e w2 ⟨rfl,aC⟩;have H2:Hid (Rx g X t w (a+1+tx.size) #[I nm,O J 16,O J la,O J 0,I ⟨#[]⟩,O J 0,I ⟨#[]⟩] w2):=H1.out.below aC;have c4:w2.cell? ⟨X,4,Y⟩=Z (I ⟨#[]⟩):=H2.out.cell 4;have z4:=H2.out.free 4;clear aC;go_wp2_with fail;simp[Jk,results,Qv];exact H2.out.store 4 (I tx)
theorem NP(g X a:Nat)(t nm ta:ByteArray)(la po:Int)(w W:World)(h:Rx g X t w a #[I nm,O J 33,O J la,O J 0,I ⟨#[]⟩,O J 0,I ⟨#[]⟩] W)(hs:t.size<=1000)(h0:0<=po)(h1:po<256^2)(hn:bT ta=0)(cA:qH t a (fC 0 2++(fC 0 2++(fC po 2++cG ta)))) :
 Calls be 156 #[If (Z ⟨g,0,Y⟩),If (Z ⟨X,0,Y⟩)] W λe w'=>e=sh (Il #[])/\Rx g X t w (a+6+(cG ta).length) #[I nm,O J 33,O J la,O J 0,I ⟨#[]⟩,O J po,I ta] w':=by
 have bA:=cA.size;simp only[Ii,bo] at bA;have a1:=cA.left;have a2:=cA.right;rw[bo] at a2;have a3:=a2.left;have a4:=a2.right;rw[bo] at a4;have a5:=a4.left;have a6:=a4.right;rw[bo] at a6;have r1:=de (n:=0) (by omega) (by omega) a1;have r2:=de (n:=0) (by omega) (by omega) a3;have r3:=de h0 h1 a5;have H:Hid (Rx g X t w a #[I nm,O J 33,O J la,O J 0,I ⟨#[]⟩,O J 0,I ⟨#[]⟩] W):=h;have R1:Hid (ax t a 2=0):=(show _=_ by omega);have R2:Hid (ax t (a+2) 2=0):=(show _=_ by omega);have R3:Hid ((ax t (a+2+2) 2:Int)=po):=r3;have A6:Hid (qH t (a+2+2+2) (cG ta)):=a6;have c1:W.cell? ⟨X,1,Y⟩=Z (O J 33):=h.cell 1;clear h cA a1 a2 a3 a4 a5 a6 r1 r2 r3;go_enter Uc,QS;go_wp2_with fail;refine(eP g a 2 0 t W H.out.dE hs (by omega) (by omega) R1.out).mono ?_;rintro e w1 ⟨rfl,h1,h2⟩;have H1:Hid (Rx g X t w (a+2) #[I nm,O J 33,O J la,O J 0,I ⟨#[]⟩,O J 0,I ⟨#[]⟩] w1):=H.out.call h1 h2;clear h1 h2;go_wp2_with fail;refine(eP g (a+2) 2 0 t w1 H1.out.dE hs (by omega) (by omega) R2.out).mono ?_;rintro e w2 ⟨rfl,h1,h2⟩;have H2:Hid (Rx g X t w (a+2+2) #[I nm,O J 33,O J la,O J 0,I ⟨#[]⟩,O J 0,I ⟨#[]⟩] w2):=H1.out.call h1 h2;clear h1 h2;go_wp2_with fail;refine(dw g (a+2+2) 2 t w2 H2.out.dE hs (by omega) (by omega)).mono ?_;rintro e w3 ⟨rfl,h1,h2⟩;rw[R3.out];have H3:Hid (Rx g X t w (a+2+2+2) #[I nm,O J 33,O J la,O J 0,I ⟨#[]⟩,O J 0,I ⟨#[]⟩] w3):=H2.out.call h1 h2;have c5:w3.cell? ⟨X,5,Y⟩=Z (O J 0):=H3.out.cell 5;have z5:=H3.out.free 5;clear h1 h2;go_wp2_with fail;have H4:Hid (Rx g X t w (a+2+2+2) #[I nm,O J 33,O J la,O J 0,I ⟨#[]⟩,O J po,I ⟨#[]⟩] (w3.setCell ⟨X,5,Y⟩ (O J po))):=H3.out.store 5 (O J po);refine(qI g (a+2+2+2) ta t _ H4.out.dE hs hn A6.out).mono ?_;rintro e w4 ⟨rfl,h1,h2⟩;have H5:Hid (Rx g X t w (a+2+2+2+(cG ta).length) #[I nm,O J 33,O J la,O J 0,I ⟨#[]⟩,O J po,I ⟨#[]⟩] w4):=H4.out.call h1 h2;have c6:w4.cell? ⟨X,6,Y⟩=Z (I ⟨#[]⟩):=H5.out.cell 6;have z6:=H5.out.free 6;clear h1 h2 H4 c5 z5;go_wp2_with fail;simp[Jk,results,Qv];exact H5.out.store 6 (I ta)
def Mf(t:ByteArray)(a:Nat):Option (ByteArray×Nat):=(vF t a a [] Y).map λx=>(mk (jn (x.1.map xz)),x.2)
theorem Du(g a:Nat)(t:ByteArray)(w:World)(h:dR g t a w)(hs:t.size<=1000)(ha:a<=t.size) :
 Calls be 102 #[If (Z ⟨g,0,Y⟩)] w λe w'=>Hid (Rd g w w')/\((∃s q,Mf t a=Z (s,q)/\s.size<=1000/\q<=t.size/\e=sh (I s)/\Hid (dR g t q w'))\/(Mf t a=Y/\e=dW 1)):=by
 refine(aal g a t w h hs ha).mono ?_;rintro e w' ⟨h1,⟨ls,q,h2,⟨h3,h4⟩,h5,h6,h7⟩|⟨h2,h3⟩⟩
 .refine⟨h1,.inl ⟨_,q,by unfold Mf;rw[h2];rfl,?_,h5,h6,h7⟩⟩
  rw[gZ];have:=Dr ls h4;omega
 .exact⟨h1,.inr ⟨by unfold Mf;rw[h2];rfl,h3⟩⟩
def mB(t:ByteArray)(a:Nat)(nm:ByteArray)(ty la:Int):Option (Rc.Rec×Nat):=
 if ty=1 then(if a+4<=t.size then Z (⟨nm,ty,la,ax t a 4,⟨#[]⟩,0,⟨#[]⟩⟩,a+4) else Y)
 else if ty=16 then(if a+1+ax t a 1<=t.size then Z (⟨nm,ty,la,0,t.extract (a+1) (a+1+ax t a 1),0,⟨#[]⟩⟩,a+1+ax t a 1) else Y)
 else if ty=33 then
  (if a+2<=t.size/\(ax t a 2:Int)=0 then
    if a+2+2<=t.size/\(ax t (a+2) 2:Int)=0 then
     if a+2+2+2<=t.size then(Mf t (a+2+2+2)).map λx=>(⟨nm,ty,la,0,⟨#[]⟩,ax t (a+2+2) 2,x.1⟩,x.2) else Y
    else Y
  else Y)
 else Z (⟨nm,ty,la,0,⟨#[]⟩,0,⟨#[]⟩⟩,a)
structure Ry(g X:Nat)(w W:World):Prop where
 os:W.os=w.os
 tape:W.tape=w.tape
 output:W.output=w.output
 size:w.heap.size<=W.heap.size
 block:∀k:Nat,k<w.heap.size->k≠g->k≠X->W.heap[k]?=w.heap[k]?
theorem Rx.ry{g X a:Nat}{t:ByteArray}{w W:World}{cs:Array Value}(h:Rx g X t w a cs W):Ry g X w W:=⟨h.os,h.tape,h.output,h.size,h.block⟩
theorem Rx.gone{g X a:Nat}{t:ByteArray}{w W W':World}{cs:Array Value}(h:Rx g X t w a cs W)(h2:Hid (Rd g W W')):Ry g X w W':=
 ⟨h2.out.os.trans h.os,h2.out.tape.trans h.tape,h2.out.output.trans h.output,Ir h.size h2.out.size,λk hk h3 h4=>(h2.out.block k (Iv hk h.size) h3).trans (h.block k hk h3 h4)⟩
abbrev ahg(r:Rc.Rec):Array Value:=#[I r.name,O J r.an,O J r.aK,O J r.addr,I r.text,O J r.port,I r.target]
abbrev yK(g X a:Nat)(t nm:ByteArray)(ty la:Int)(w:World)(e:Ending)(w':World):Prop:=
 (∃r q,mB t a nm ty la=Z (r,q)/\q<=t.size/\(r.name=nm/\r.text.size<=1000/\r.target.size<=1000)/\e=sh (Il #[])/\Hid (Rx g X t w q (ahg r) w'))\/(mB t a nm ty la=Y/\e=dW 1/\Hid (Ry g X w w'))
theorem TV(g X a:Nat)(t nm:ByteArray)(la:Int)(w W:World)(h:Rx g X t w a #[I nm,O J 1,O J la,O J 0,I ⟨#[]⟩,O J 0,I ⟨#[]⟩] W)(hs:t.size<=1000)(ha:a<=t.size) :
 Calls be 156 #[If (Z ⟨g,0,Y⟩),If (Z ⟨X,0,Y⟩)] W (yK g X a t nm 1 la w):=by
 have HF:Hid (mB t a nm 1 la=if a+4<=t.size then Z (⟨nm,1,la,ax t a 4,⟨#[]⟩,0,⟨#[]⟩⟩,a+4) else Y):=if_pos rfl;have H:Hid (Rx g X t w a #[I nm,O J 1,O J la,O J 0,I ⟨#[]⟩,O J 0,I ⟨#[]⟩] W):=h;have HN:Hid (Calls be 99 #[If (Z ⟨g,0,Y⟩),O J 4] W λe w'=>Hid (Rd g W w')/\((a+4<=t.size/\e=sh (O J (ax t a 4))/\Hid (dR g t (a+4) w'))\/(¬ a+4<=t.size/\e=dW 1))):=ew g a 4 t W h.dE hs ha (by omega);have c1:W.cell? ⟨X,1,Y⟩=Z (O J 1):=h.cell 1;clear h;unfold yK;generalize mB t a nm 1 la=F at *;go_enter Uc,QS;go_wp2_with fail;refine HN.out.mono ?_;rintro e w1 ⟨h2,⟨hle,rfl,h1⟩|⟨iV,rfl⟩⟩;rotate_left
 .exact⟨rfl,.inr ⟨HF.out.trans (if_neg iV),rfl,H.out.gone h2⟩⟩
 have H1:Hid (Rx g X t w (a+4) #[I nm,O J 1,O J la,O J 0,I ⟨#[]⟩,O J 0,I ⟨#[]⟩] w1):=H.out.call h1 h2;have c3:w1.cell? ⟨X,3,Y⟩=Z (O J 0):=H1.out.cell 3;have z3:=H1.out.free 3;have zH:Hid (F=Z (⟨nm,1,la,ax t a 4,⟨#[]⟩,0,⟨#[]⟩⟩,a+4)):=HF.out.trans (if_pos hle);clear h1 h2 HF;generalize(ax t a 4:Int)=x at *;go_wp2_with fail;simp only[Jk,results,Qv];exact⟨trivial,Il #[],by simp,.inl ⟨_,_,zH.out,hle,⟨rfl,by simp[JJ],by simp[JJ]⟩,rfl,H1.out.store 3 (O J x)⟩⟩
theorem NQ(g X a:Nat)(t nm:ByteArray)(la:Int)(w W:World)(h:Rx g X t w a #[I nm,O J 16,O J la,O J 0,I ⟨#[]⟩,O J 0,I ⟨#[]⟩] W)(hs:t.size<=1000)(ha:a<=t.size) :
 Calls be 156 #[If (Z ⟨g,0,Y⟩),If (Z ⟨X,0,Y⟩)] W (yK g X a t nm 16 la w):=by
 have HF:Hid (mB t a nm 16 la=if a+1+ax t a 1<=t.size then Z (⟨nm,16,la,0,t.extract (a+1) (a+1+ax t a 1),0,⟨#[]⟩⟩,a+1+ax t a 1) else Y):=rfl;have H:Hid (Rx g X t w a #[I nm,O J 16,O J la,O J 0,I ⟨#[]⟩,O J 0,I ⟨#[]⟩] W):=h;have HN:Hid (Calls be 155 #[If (Z ⟨g,0,Y⟩)] W λe w'=>Hid (Rd g W w')/\((a+1+ax t a 1<=t.size/\e=sh (I (t.extract (a+1) (a+1+ax t a 1)))/\Hid (dR g t (a+1+ax t a 1) w'))\/(¬ a+1+ax t a 1<=t.size/\e=dW 1))):=xy g a t W h.dE hs ha;have WR:a+1+ax t a 1<=t.size->(t.extract (a+1) (a+1+ax t a 1)).size<=1000:=λhl=>by rw[Fl t a _ hl];omega
 have c1:W.cell? ⟨X,1,Y⟩=Z (O J 16):=h.cell 1;clear h;unfold yK;generalize mB t a nm 16 la=F at *;generalize t.extract (a+1) (a+1+ax t a 1)=x at *;generalize ax t a 1=y at *;go_enter Uc,QS;go_wp2_with fail;refine HN.out.mono ?_;rintro e w1 ⟨h2,⟨hle,rfl,h1⟩|⟨iV,rfl⟩⟩;rotate_left
 .exact⟨rfl,.inr ⟨HF.out.trans (if_neg iV),rfl,H.out.gone h2⟩⟩
 have H1:Hid (Rx g X t w (a+1+y) #[I nm,O J 16,O J la,O J 0,I ⟨#[]⟩,O J 0,I ⟨#[]⟩] w1):=H.out.call h1 h2;have zH:Hid (F=Z (⟨nm,16,la,0,x,0,⟨#[]⟩⟩,a+1+y)):=HF.out.trans (if_pos hle);have HCL:Hid (∀W,Calls be 214 #[I x] W λe w'=>e=sh (I x)/\Below W.heap.size W w'):=λW=>ud x W (WR hle);have hx1:=WR hle;clear h1 h2 HF WR;go_wp2_with fail;refine(HCL.out w1).mono ?_;rintro e w2 ⟨rfl,aC⟩;have H2:Hid (Rx g X t w (a+1+y) #[I nm,O J 16,O J la,O J 0,I ⟨#[]⟩,O J 0,I ⟨#[]⟩] w2):=H1.out.below aC;have c4:w2.cell? ⟨X,4,Y⟩=Z (I ⟨#[]⟩):=H2.out.cell 4;have z4:=H2.out.free 4;clear aC;go_wp2_with fail;simp only[Jk,results,Qv];exact⟨trivial,Il #[],by simp,.inl ⟨_,_,zH.out,hle,⟨rfl,hx1,by simp[JJ]⟩,rfl,H2.out.store 4 (I x)⟩⟩
theorem NR(g X a:Nat)(t nm:ByteArray)(la:Int)(w W:World)(h:Rx g X t w a #[I nm,O J 33,O J la,O J 0,I ⟨#[]⟩,O J 0,I ⟨#[]⟩] W)(hs:t.size<=1000)(ha:a<=t.size) :
 Calls be 156 #[If (Z ⟨g,0,Y⟩),If (Z ⟨X,0,Y⟩)] W (yK g X a t nm 33 la w):=by
 have HF:Hid (mB t a nm 33 la=if a+2<=t.size/\(ax t a 2:Int)=0 then
  if a+2+2<=t.size/\(ax t (a+2) 2:Int)=0 then
   if a+2+2+2<=t.size then(Mf t (a+2+2+2)).map λx=>(⟨nm,33,la,0,⟨#[]⟩,ax t (a+2+2) 2,x.1⟩,x.2) else Y
  else Y
  else Y):=rfl
 have H:Hid (Rx g X t w a #[I nm,O J 33,O J la,O J 0,I ⟨#[]⟩,O J 0,I ⟨#[]⟩] W):=h;have c1:W.cell? ⟨X,1,Y⟩=Z (O J 33):=h.cell 1;clear h;unfold yK;generalize mB t a nm 33 la=F at *;go_enter Uc,QS;go_wp2_with fail;refine(ik g a 2 0 t W H.out.dE hs ha (by omega)).mono ?_;rintro e w1 ⟨h2,⟨hle,rfl,h1⟩|⟨iV,rfl⟩⟩;rotate_left
 .exact⟨rfl,.inr ⟨HF.out.trans (if_neg iV),rfl,H.out.gone h2⟩⟩
 have H1:Hid (Rx g X t w (a+2) #[I nm,O J 33,O J la,O J 0,I ⟨#[]⟩,O J 0,I ⟨#[]⟩] w1):=H.out.call h1 h2;have zH:Hid _:=HF.out.trans (if_pos hle);have eY:=hle.1;clear h1 h2 HF hle;go_wp2_with fail;refine(ik g (a+2) 2 0 t w1 H1.out.dE hs eY (by omega)).mono ?_;rintro e w2 ⟨h2,⟨hle,rfl,h1⟩|⟨iV,rfl⟩⟩;rotate_left
 .exact⟨rfl,.inr ⟨zH.out.trans (if_neg iV),rfl,H1.out.gone h2⟩⟩
 have H2:Hid (Rx g X t w (a+2+2) #[I nm,O J 33,O J la,O J 0,I ⟨#[]⟩,O J 0,I ⟨#[]⟩] w2):=H1.out.call h1 h2;have wJ:Hid _:=zH.out.trans (if_pos hle);have fG:=hle.1;clear h1 h2 zH hle;go_wp2_with fail;refine(ew g (a+2+2) 2 t w2 H2.out.dE hs fG (by omega)).mono ?_;rintro e w3 ⟨h2,⟨hle,rfl,h1⟩|⟨iV,rfl⟩⟩;rotate_left
 .exact⟨rfl,.inr ⟨wJ.out.trans (if_neg iV),rfl,H2.out.gone h2⟩⟩
 have H3:Hid (Rx g X t w (a+2+2+2) #[I nm,O J 33,O J la,O J 0,I ⟨#[]⟩,O J 0,I ⟨#[]⟩] w3):=H2.out.call h1 h2;have zP:Hid (F=(Mf t (a+2+2+2)).map λx=>(⟨nm,33,la,0,⟨#[]⟩,ax t (a+2+2) 2,x.1⟩,x.2)):=wJ.out.trans (if_pos hle);have c5:w3.cell? ⟨X,5,Y⟩=Z (O J 0):=H3.out.cell 5;have z5:=H3.out.free 5;clear h1 h2 wJ;generalize(ax t (a+2+2) 2:Int)=po at *;go_wp2_with fail;have H4:Hid (Rx g X t w (a+2+2+2) #[I nm,O J 33,O J la,O J 0,I ⟨#[]⟩,O J po,I ⟨#[]⟩] (w3.setCell ⟨X,5,Y⟩ (O J po))):=H3.out.store 5 (O J po);refine(Du g (a+2+2+2) t _ H4.out.dE hs hle).mono ?_;rintro e w4 ⟨h2,⟨ta,q,h3,h4,h5,rfl,h1⟩|⟨h3,rfl⟩⟩;rotate_left
 .exact⟨rfl,.inr ⟨by rw[zP.out,h3];rfl,rfl,H4.out.gone h2⟩⟩
 have H5:Hid (Rx g X t w q #[I nm,O J 33,O J la,O J 0,I ⟨#[]⟩,O J po,I ⟨#[]⟩] w4):=H4.out.call h1 h2;have TW:Hid (F=Z (⟨nm,33,la,0,⟨#[]⟩,po,ta⟩,q)):=(show _=_ by rw[zP.out,h3];rfl);have c6:w4.cell? ⟨X,6,Y⟩=Z (I ⟨#[]⟩):=H5.out.cell 6;have z6:=H5.out.free 6;clear h1 h2 h3 zP H4 c5 z5;go_wp2_with fail;simp only[Jk,results,Qv];exact⟨trivial,Il #[],by simp,.inl ⟨_,_,TW.out,h5,⟨rfl,by simp[JJ],h4⟩,rfl,H5.out.store 6 (I ta)⟩⟩
theorem Dv(g X a:Nat)(t nm:ByteArray)(ty la:Int)(w W:World)(h:Rx g X t w a #[I nm,O J ty,O J la,O J 0,I ⟨#[]⟩,O J 0,I ⟨#[]⟩] W)(ha:a<=t.size)(h1:ty≠1)(h2:ty≠16)(h3:ty≠33) :
 Calls be 156 #[If (Z ⟨g,0,Y⟩),If (Z ⟨X,0,Y⟩)] W (yK g X a t nm ty la w):=by
 have HF:Hid (mB t a nm ty la=Z (⟨nm,ty,la,0,⟨#[]⟩,0,⟨#[]⟩⟩,a)):=(show _=_ by unfold mB;rw[if_neg h1,if_neg h2,if_neg h3]);have H:Hid (Rx g X t w a #[I nm,O J ty,O J la,O J 0,I ⟨#[]⟩,O J 0,I ⟨#[]⟩] W):=h;have c1:W.cell? ⟨X,1,Y⟩=Z (O J ty):=h.cell 1;have e1:(ty==1)=false:=by simpa using h1
 have e2:(ty==16)=false:=by simpa using h2
 have e3:(ty==33)=false:=by simpa using h3
 clear h;unfold yK;generalize mB t a nm ty la=F at *;go_enter Uc,QS;go_wp2_with fail;simp only[Jk,results,Qv];exact⟨trivial,Il #[],by simp,.inl ⟨_,_,HF.out,ha,⟨rfl,by simp[JJ],by simp[JJ]⟩,rfl,H.out⟩⟩
theorem aan(g X a:Nat)(t nm:ByteArray)(ty la:Int)(w W:World)(h:Rx g X t w a #[I nm,O J ty,O J la,O J 0,I ⟨#[]⟩,O J 0,I ⟨#[]⟩] W)(hs:t.size<=1000)(ha:a<=t.size) :
 Calls be 156 #[If (Z ⟨g,0,Y⟩),If (Z ⟨X,0,Y⟩)] W (yK g X a t nm ty la w):=by
 by_cases h1:ty=1
 .subst h1;exact TV g X a t nm la w W h hs ha
 by_cases h2:ty=16
 .subst h2;exact NQ g X a t nm la w W h hs ha
 by_cases h3:ty=33
 .subst h3;exact NR g X a t nm la w W h hs ha
 exact Dv g X a t nm ty la w W h ha h1 h2 h3
theorem dR.put{g a b:Nat}{t:ByteArray}{W:World}(h:dR g t a W)(i:Nat)(v:Value)(hb:b≠g):dR g t a (W.setCell ⟨b,i,Y⟩ v):=
 ⟨(JF _ _ _ _ (by intro e;simp at e)).trans h.c0,(JF _ _ _ _ (by intro e;simp at e)).trans h.c1,by simpa using h.hz,by simpa using h.hg⟩
theorem Dw{r:Rc.Rec}(h:bL r=0):sr r=true:=by
 unfold bL at h;split at h
 .omega
 split at h
 .omega
 split at h
 .omega
 split at h
 .omega
 rename_i h4;simpa using h4
theorem Fp{r:Rc.Rec}(h:bL r=0):(0<=r.aK/\r.aK<256^4)/\(0<=r.addr/\r.addr<256^4)/\(0<=r.port/\r.port<256^2)/\(0<=r.an/\r.an<256^2):=by
 have h2:=(fA h).2.1;unfold bL at h;split at h
 .omega
 split at h
 .omega
 split at h
 .omega
 rename_i h3;split at h
 .omega
 split at h
 .omega
 rename_i h5;have h3':within r.aK 0 2147483647=true:=by simpa using h3
 have h5':(within r.addr 0 4294967295&&within r.port 0 65535)=true:=by simpa using h5
 simp only[within,IJ,decide_eq_true_eq] at h3' h5';simp only[gz,O2,decide_eq_true_eq] at h2;refine⟨⟨h3'.1,by omega⟩,⟨h5'.1.1,by omega⟩,⟨h5'.2.1,by omega⟩,by omega,by omega⟩
theorem Hi(g X a:Nat)(t:ByteArray)(r:Rc.Rec)(w W:World)(h:Rx g X t w a #[I r.name,O J r.an,O J r.aK,O J 0,I ⟨#[]⟩,O J 0,I ⟨#[]⟩] W)(hs:t.size<=1000)(hc:bL r=0)(cA:qH t a (fj r)) :
 Calls be 156 #[If (Z ⟨g,0,Y⟩),If (Z ⟨X,0,Y⟩)] W λe w'=>e=sh (Il #[])/\Rx g X t w (a+(fj r).length) #[I r.name,O J r.an,O J r.aK,O J r.addr,I r.text,O J r.port,I r.target] w':=by
 have ho:=Dw hc;obtain⟨n1,n2,n3,n4⟩:=fA hc;obtain⟨_,⟨m3,m4⟩,⟨m5,m6⟩,_⟩:=Fp hc;obtain⟨name,an,aK,addr,text,port,target⟩:=r;simp only at *;have htt:an=1\/an=16\/an=33:=by
  simp only[gz,O2,decide_eq_true_eq,or_assoc] at n2;exact n2
 simp only[sr,IJ,O2,decide_eq_true_eq] at ho;obtain⟨o1,o2,o3⟩:=ho;have htl:text.data.toList.length=text.size:=by simp
 rcases htt with rfl|rfl|rfl
 .have e2:=cO (by omega:text.size=0)
  have e3:port=0:=by omega
  have e4:=cO (by omega:target.size=0);subst e2 e3 e4;have hw:fj ⟨name,1,aK,addr,⟨#[]⟩,0,⟨#[]⟩⟩=fC addr 4:=rfl;rw[hw] at cA ⊢;rw[bo];exact TU g X a t name aK addr w W h hs m3 m4 cA
 .have e1:addr=0:=by omega
  have e3:port=0:=by omega
  have e4:=cO (by omega:target.size=0);subst e1 e3 e4;have hw:fj ⟨name,16,aK,0,text,0,⟨#[]⟩⟩=fC text.size 1++text.data.toList:=rfl;rw[hw] at cA ⊢;rw[Ii,bo,htl,<- Nat.add_assoc];exact NO g X a t name text aK w W h hs n3 cA
 .have e1:addr=0:=by omega
  have e2:=cO (by omega:text.size=0);subst e1 e2;have hw:fj ⟨name,33,aK,0,⟨#[]⟩,port,target⟩=fC 0 2++(fC 0 2++(fC port 2++cG target)):=rfl;rw[hw] at cA ⊢;have hl:a+(fC 0 2++(fC 0 2++(fC port 2++cG target))).length=a+6+(cG target).length:=by
   simp only[Ii,bo];omega
  rw[hl];exact NP g X a t name target aK port w W h hs m5 m6 n4 cA
theorem NT(g a:Nat)(r:Rc.Rec)(t:ByteArray)(w:World)(h:dR g t a w)(hs:t.size<=1000)(hc:bL r=0)(cA:qH t a (dv r)) :
 Calls be 103 #[If (Z ⟨g,0,Y⟩)] w λe w'=>e=sh (mu r)/\Hid (dR g t (a+(dv r).length) w')/\Hid (Rd g w w'):=by
 have HI:Hid (dR g t a w):=h;have hg:=h.hg;obtain⟨n1,n2,n3,n4⟩:=fA hc;obtain⟨⟨m1,m2⟩,_,_,m7,m8⟩:=Fp hc;have hdl:=tU n3 n4;rw[ou,Lib.byteCells_length] at hdl;have bA:=cA.size;unfold dv at cA bA ⊢;have a1:=cA.left;have a2:=cA.right;have a3:=a2.left;have a4:=a2.right;rw[bo] at a4;have a5:=a4.left;have a6:=a4.right;rw[bo] at a6;have a7:=a6.left;have a8:=a6.right;rw[bo] at a8;have a9:=a8.left;have a10:=a8.right;rw[bo] at a10;have r3:=de m7 m8 a3;have r5:=de (n:=1) (by omega) (by omega) a5;have r7:=de m1 m2 a7;have r9:=de (n:=(fj r).length) (by omega) (by omega) a9;simp only[Ii,bo] at bA ⊢;have A1:Hid (qH t a (cG r.name)):=a1;have R3:Hid ((ax t (a+(cG r.name).length) 2:Int)=r.an):=r3;have R5:Hid (ax t (a+(cG r.name).length+2) 2=1):=(show _=_ by omega);have R7:Hid ((ax t (a+(cG r.name).length+2+2) 4:Int)=r.aK):=r7;have R9:Hid ((ax t (a+(cG r.name).length+2+2+4) 2:Int)=((fj r).length:Int)):=r9;have HDA:Hid (∀wb X W,Rx g X t wb (a+(cG r.name).length+2+2+4+2) #[I r.name,O J r.an,O J r.aK,O J 0,I ⟨#[]⟩,O J 0,I ⟨#[]⟩] W->Calls be 156 #[If (Z ⟨g,0,Y⟩),If (Z ⟨X,0,Y⟩)] W λe w'=>e=sh (Il #[])/\Rx g X t wb (a+(cG r.name).length+2+2+4+2+(fj r).length) #[I r.name,O J r.an,O J r.aK,O J r.addr,I r.text,O J r.port,I r.target] w'):=λwb X W hX=>Hi g X _ t r wb W hX hs hc a10;clear h cA a1 a2 a3 a4 a5 a6 a7 a8 a9 a10 r3 r5 r7 r9 n2 n3 n4 m1 m2 m7 m8 hc;generalize(fj r).length=dn at *;generalize L5:(cG r.name).length=nl at *;have yk:Hid ((cG r.name).length=nl):=L5;clear L5;go_enter Tryz.func103,Tryz.ntmps103;go_wp2_with fail;obtain⟨wq,xb⟩:∃wq,wq=w.alloc (AT #[I ⟨#[]⟩,O J 0,O J 0,O J 0,I ⟨#[]⟩,O J 0,I ⟨#[]⟩] 64):=⟨_,rfl⟩;have hnq:wq.heap.size=w.heap.size+1:=by rw[xb];simp
 have TZ:w.Extends wq:=by rw[xb];exact(Iy w).alloc _
 have Cv:wq.heap[w.heap.size]?=Z (AT #[I ⟨#[]⟩,O J 0,O J 0,O J 0,I ⟨#[]⟩,O J 0,I ⟨#[]⟩] 64 (0,0)):=by rw[xb];exact Ie w _
 rw[<- xb];clear xb;have H0:Hid (Rx g (w.heap.size+1) t wq a #[I ⟨#[]⟩,O J 0,O J 0,O J 0,I ⟨#[]⟩,O J 0,I ⟨#[]⟩] (wq.alloc (AT #[I ⟨#[]⟩,O J 0,O J 0,O J 0,I ⟨#[]⟩,O J 0,I ⟨#[]⟩] 64))):=(show Rx _ _ _ _ _ _ _ by
  have hx:wq.Extends (wq.alloc (AT #[I ⟨#[]⟩,O J 0,O J 0,O J 0,I ⟨#[]⟩,O J 0,I ⟨#[]⟩] 64)):=(Iy wq).alloc _;have hn:=Ie wq (AT #[I ⟨#[]⟩,O J 0,O J 0,O J 0,I ⟨#[]⟩,O J 0,I ⟨#[]⟩] 64);rw[hnq] at hn;exact⟨(HI.out.ext TZ).ext hx,hn,rfl,rfl,rfl,hx.size,λk hk _ _=>hx.block k hk,by omega⟩)
 refine(qI g a r.name t _ H0.out.dE hs n1 A1.out).mono ?_;rintro e w1 ⟨rfl,h1,h2⟩;rw[yk.out] at h1;have H1:Hid (Rx g (w.heap.size+1) t wq (a+nl) #[I ⟨#[]⟩,O J 0,O J 0,O J 0,I ⟨#[]⟩,O J 0,I ⟨#[]⟩] w1):=H0.out.call h1 h2;have c0:w1.cell? ⟨w.heap.size+1,0,Y⟩=Z (I ⟨#[]⟩):=H1.out.cell 0;have z0:=H1.out.free 0;clear h1 h2 H0;go_wp2_with fail;have H2:Hid (Rx g (w.heap.size+1) t wq (a+nl) #[I r.name,O J 0,O J 0,O J 0,I ⟨#[]⟩,O J 0,I ⟨#[]⟩] (w1.setCell ⟨w.heap.size+1,0,Y⟩ (I r.name))):=H1.out.store 0 (I r.name);refine(dw g (a+nl) 2 t _ H2.out.dE hs (by omega) (by omega)).mono ?_;rintro e w2 ⟨rfl,h1,h2⟩;rw[R3.out];have H3:Hid (Rx g (w.heap.size+1) t wq (a+nl+2) #[I r.name,O J 0,O J 0,O J 0,I ⟨#[]⟩,O J 0,I ⟨#[]⟩] w2):=H2.out.call h1 h2;have c1:w2.cell? ⟨w.heap.size+1,1,Y⟩=Z (O J 0):=H3.out.cell 1;have z1:=H3.out.free 1;clear h1 h2 H1 H2 c0 z0;go_wp2_with fail;have H4:Hid (Rx g (w.heap.size+1) t wq (a+nl+2) #[I r.name,O J r.an,O J 0,O J 0,I ⟨#[]⟩,O J 0,I ⟨#[]⟩] (w2.setCell ⟨w.heap.size+1,1,Y⟩ (O J r.an))):=H3.out.store 1 (O J r.an);refine(eP g (a+nl+2) 2 1 t _ H4.out.dE hs (by omega) (by omega) R5.out).mono ?_;rintro e w3 ⟨rfl,h1,h2⟩;have H5:Hid (Rx g (w.heap.size+1) t wq (a+nl+2+2) #[I r.name,O J r.an,O J 0,O J 0,I ⟨#[]⟩,O J 0,I ⟨#[]⟩] w3):=H4.out.call h1 h2;clear h1 h2 H3 H4 c1 z1;go_wp2_with fail;refine(dw g (a+nl+2+2) 4 t _ H5.out.dE hs (by omega) (by omega)).mono ?_;rintro e w4 ⟨rfl,h1,h2⟩;rw[R7.out];have H6:Hid (Rx g (w.heap.size+1) t wq (a+nl+2+2+4) #[I r.name,O J r.an,O J 0,O J 0,I ⟨#[]⟩,O J 0,I ⟨#[]⟩] w4):=H5.out.call h1 h2;have c2:w4.cell? ⟨w.heap.size+1,2,Y⟩=Z (O J 0):=H6.out.cell 2;have z2:=H6.out.free 2;clear h1 h2 H5;go_wp2_with fail;have H7:Hid (Rx g (w.heap.size+1) t wq (a+nl+2+2+4) #[I r.name,O J r.an,O J r.aK,O J 0,I ⟨#[]⟩,O J 0,I ⟨#[]⟩] (w4.setCell ⟨w.heap.size+1,2,Y⟩ (O J r.aK))):=H6.out.store 2 (O J r.aK);refine(dw g (a+nl+2+2+4) 2 t _ H7.out.dE hs (by omega) (by omega)).mono ?_;rintro e w5 ⟨rfl,h1,h2⟩;rw[R9.out];have H8:Hid (Rx g (w.heap.size+1) t wq (a+nl+2+2+4+2) #[I r.name,O J r.an,O J r.aK,O J 0,I ⟨#[]⟩,O J 0,I ⟨#[]⟩] w5):=H7.out.call h1 h2;have ca:w5.cell? ⟨g,1,Y⟩=Z (O J ((a+nl+2+2+4+2:Nat):Int)):=H8.out.dE.c1;clear h1 h2 H6 H7 c2 z2;go_wp2_with fail;refine(HDA.out wq _ w5 H8.out).mono ?_;rintro e w9 ⟨rfl,h9⟩;have H9:Hid (Rx g (w.heap.size+1) t wq (a+nl+2+2+4+2+dn) #[I r.name,O J r.an,O J r.aK,O J r.addr,I r.text,O J r.port,I r.target] w9):=h9;have pA:Hid (w9.heap[w.heap.size]?=Z (AT #[I ⟨#[]⟩,O J 0,O J 0,O J 0,I ⟨#[]⟩,O J 0,I ⟨#[]⟩] 64 (0,0))):=(h9.block _ (by omega) (by omega) (by omega)).trans Cv;have cb:w9.cell? ⟨g,1,Y⟩=Z (O J ((a+nl+2+2+4+2+dn:Nat):Int)):=h9.dE.c1;clear h9 H8 ca;have m0:w9.cell? ⟨w.heap.size+1,0,Y⟩=Z (I r.name):=H9.out.cell 0;have q0:w9.cell? ⟨w.heap.size,0,Y⟩=Z (I ⟨#[]⟩):=af pA.out 0;have y0:w9.frozen? ⟨w.heap.size,0,Y⟩=false:=by simp[Ig,pA.out]
 have m1:w9.cell? ⟨w.heap.size+1,1,Y⟩=Z (O J r.an):=H9.out.cell 1;have q1:w9.cell? ⟨w.heap.size,1,Y⟩=Z (O J 0):=af pA.out 1;have y1:w9.frozen? ⟨w.heap.size,1,Y⟩=false:=by simp[Ig,pA.out]
 have m2:w9.cell? ⟨w.heap.size+1,2,Y⟩=Z (O J r.aK):=H9.out.cell 2;have q2:w9.cell? ⟨w.heap.size,2,Y⟩=Z (O J 0):=af pA.out 2;have y2:w9.frozen? ⟨w.heap.size,2,Y⟩=false:=by simp[Ig,pA.out]
 have m3:w9.cell? ⟨w.heap.size+1,3,Y⟩=Z (O J r.addr):=H9.out.cell 3;have q3:w9.cell? ⟨w.heap.size,3,Y⟩=Z (O J 0):=af pA.out 3;have y3:w9.frozen? ⟨w.heap.size,3,Y⟩=false:=by simp[Ig,pA.out]
 have m4:w9.cell? ⟨w.heap.size+1,4,Y⟩=Z (I r.text):=H9.out.cell 4;have q4:w9.cell? ⟨w.heap.size,4,Y⟩=Z (I ⟨#[]⟩):=af pA.out 4;have y4:w9.frozen? ⟨w.heap.size,4,Y⟩=false:=by simp[Ig,pA.out]
 have m5:w9.cell? ⟨w.heap.size+1,5,Y⟩=Z (O J r.port):=H9.out.cell 5;have q5:w9.cell? ⟨w.heap.size,5,Y⟩=Z (O J 0):=af pA.out 5;have y5:w9.frozen? ⟨w.heap.size,5,Y⟩=false:=by simp[Ig,pA.out]
 have m6:w9.cell? ⟨w.heap.size+1,6,Y⟩=Z (I r.target):=H9.out.cell 6;have q6:w9.cell? ⟨w.heap.size,6,Y⟩=Z (I ⟨#[]⟩):=af pA.out 6;have y6:w9.frozen? ⟨w.heap.size,6,Y⟩=false:=by simp[Ig,pA.out]
 have TO:((a+nl+2+2+4+2+dn:Nat):Int)-((a+nl+2+2+4+2:Nat):Int)=(dn:Int):=by omega
 have WQ:IntKind.i64.wrap (((a+nl+2+2+4+2+dn:Nat):Int)-((a+nl+2+2+4+2:Nat):Int))=(dn:Int):=by rw[TO,IK];omega
 have hbq:((a:Int)+(nl:Int)+2+2+4+2+(dn:Int)-((a:Int)+(nl:Int)+2+2+4+2)==(dn:Int))=true:=by rw[beq_iff_eq];omega
 have eR:Hid (((a:Int)+(nl:Int)+2+2+4+2+(dn:Int)-((a:Int)+(nl:Int)+2+2+4+2)==(dn:Int))=true):=hbq;clear hbq TO WQ;go_wp2_with fail;rw[eR.out];refine(cy _ _).mono ?_;rintro e w10 ⟨rfl,NU⟩;subst NU;go_wp2_with fail;refine Ix (v:=mu r) ?_ rfl ⟨rfl,?_,?_⟩
 .simp[results,Tryz.results103,go_sem,q0,q1,q2,q3,q4,q5,q6]
 .have he:a+(nl+(2+(2+(4+(2+dn)))))=a+nl+2+2+4+2+dn:=by omega
  rw[he];exact((((((((H9.out.dE).put 0 _ (by omega)).put 1 _ (by omega)).put 2 _ (by omega)).put 3 _ (by omega)).put 4 _ (by omega)).put 5 _ (by omega)).put 6 _ (by omega))
 .have Dx:Rd g w w10:=⟨H9.out.os.trans TZ.os,H9.out.tape.trans TZ.tape,H9.out.output.trans TZ.output,by have:=H9.out.size;omega,λk hk hkg=>(H9.out.block k (by omega) hkg (by omega)).trans (TZ.block k hk)⟩
  exact(((((((Dx.put 0 _ (By _)).put 1 _ (By _)).put 2 _ (By _)).put 3 _ (By _)).put 4 _ (By _)).put 5 _ (By _)).put 6 _ (By _))
def AQ(t:ByteArray)(p:Nat)(o:Option (Rc.Rec×Nat)):Option (Rc.Rec×Nat):=
 match o with
 |none=>Y
 |some (r,q)=>if(q:Int)-((p+2+2+4+2:Nat):Int)=(ax t (p+2+2+4) 2:Int) then Z (r,q) else Y
def aap(t nm:ByteArray)(p:Nat):Option (Rc.Rec×Nat):=
 if p+2<=t.size then
  if p+2+2<=t.size/\(ax t (p+2) 2:Int)=1 then
   if p+2+2+4<=t.size then
    if p+2+2+4+2<=t.size then AQ t p (mB t (p+2+2+4+2) nm (ax t p 2) (ax t (p+2+2) 4)) else Y
   else Y
  else Y
 else Y
def sB(t:ByteArray)(a:Nat):Option (Rc.Rec×Nat):=
 match Mf t a with
 |none=>Y
 |some (nm,p)=>aap t nm p
theorem Ry.rd{g X:Nat}{w wq W:World}(h:Ry g X wq W)(hx:w.Extends wq)(hX:w.heap.size<=X):Rd g w W:=
 ⟨h.os.trans hx.os,h.tape.trans hx.tape,h.output.trans hx.output,Ir hx.size h.size,λk hk hg=>(h.block k (Iv hk hx.size) hg (by omega)).trans (hx.block k hk)⟩
theorem aaq(g a:Nat)(t:ByteArray)(w:World)(h:dR g t a w)(hs:t.size<=1000)(ha:a<=t.size) :
 Calls be 103 #[If (Z ⟨g,0,Y⟩)] w λe w'=>Hid (Rd g w w')/\((∃r q,sB t a=Z (r,q)/\q<=t.size/\r.ok/\e=sh (mu r)/\Hid (dR g t q w'))\/(sB t a=Y/\e=dW 1)):=by
 have HI:Hid (dR g t a w):=h;have hg:=h.hg;have HF:Hid (sB t a=match Mf t a with|none=>Y|some (nm,p)=>aap t nm p):=rfl;clear h;generalize sB t a=F at *;go_enter Tryz.func103,Tryz.ntmps103;go_wp2_with fail;obtain⟨wq,xb⟩:∃wq,wq=w.alloc (AT #[I ⟨#[]⟩,O J 0,O J 0,O J 0,I ⟨#[]⟩,O J 0,I ⟨#[]⟩] 64):=⟨_,rfl⟩;have hnq:wq.heap.size=w.heap.size+1:=by rw[xb];simp
 have TZ:w.Extends wq:=by rw[xb];exact(Iy w).alloc _
 have Cv:wq.heap[w.heap.size]?=Z (AT #[I ⟨#[]⟩,O J 0,O J 0,O J 0,I ⟨#[]⟩,O J 0,I ⟨#[]⟩] 64 (0,0)):=by rw[xb];exact Ie w _
 rw[<- xb];clear xb;have WS:Hid (w.Extends wq):=TZ;have HGQ:Hid (wq.heap[w.heap.size]?=Z (AT #[I ⟨#[]⟩,O J 0,O J 0,O J 0,I ⟨#[]⟩,O J 0,I ⟨#[]⟩] 64 (0,0))):=Cv;have H0:Hid (Rx g (w.heap.size+1) t wq a #[I ⟨#[]⟩,O J 0,O J 0,O J 0,I ⟨#[]⟩,O J 0,I ⟨#[]⟩] (wq.alloc (AT #[I ⟨#[]⟩,O J 0,O J 0,O J 0,I ⟨#[]⟩,O J 0,I ⟨#[]⟩] 64))):=(show Rx _ _ _ _ _ _ _ by
  have hx:wq.Extends (wq.alloc (AT #[I ⟨#[]⟩,O J 0,O J 0,O J 0,I ⟨#[]⟩,O J 0,I ⟨#[]⟩] 64)):=(Iy wq).alloc _;have hn:=Ie wq (AT #[I ⟨#[]⟩,O J 0,O J 0,O J 0,I ⟨#[]⟩,O J 0,I ⟨#[]⟩] 64);rw[hnq] at hn;exact⟨(HI.out.ext TZ).ext hx,hn,rfl,rfl,rfl,hx.size,λk hk _ _=>hx.block k hk,by omega⟩)
 clear TZ Cv;refine(Du g a t _ H0.out.dE hs ha).mono ?_;rintro e w1 ⟨h2,⟨nm,p,h3,h4,h5,rfl,h1⟩|⟨h3,rfl⟩⟩;rotate_left
 .exact⟨rfl,(H0.out.gone h2).rd WS.out (by omega),.inr ⟨by rw[HF.out,h3],rfl⟩⟩
 have zH:Hid (F=aap t nm p):=(show _=_ by rw[HF.out,h3]);have wJ:Hid (F=if p+2<=t.size then
  if p+2+2<=t.size/\(ax t (p+2) 2:Int)=1 then
   if p+2+2+4<=t.size then
    if p+2+2+4+2<=t.size then AQ t p (mB t (p+2+2+4+2) nm (ax t p 2) (ax t (p+2+2) 4)) else Y
   else Y
  else Y
  else Y):=zH
 have H1:Hid (Rx g (w.heap.size+1) t wq p #[I ⟨#[]⟩,O J 0,O J 0,O J 0,I ⟨#[]⟩,O J 0,I ⟨#[]⟩] w1):=H0.out.call h1 h2;have c0:w1.cell? ⟨w.heap.size+1,0,Y⟩=Z (I ⟨#[]⟩):=H1.out.cell 0;have z0:=H1.out.free 0;clear h1 h2 h3 H0 HF zH;go_wp2_with fail;have H2:Hid (Rx g (w.heap.size+1) t wq p #[I nm,O J 0,O J 0,O J 0,I ⟨#[]⟩,O J 0,I ⟨#[]⟩] (w1.setCell ⟨w.heap.size+1,0,Y⟩ (I nm))):=H1.out.store 0 (I nm);refine(ew g p 2 t _ H2.out.dE hs h5 (by omega)).mono ?_;rintro e w2 ⟨h2,⟨hle,rfl,h1⟩|⟨iV,rfl⟩⟩;rotate_left
 .exact⟨rfl,(H2.out.gone h2).rd WS.out (by omega),.inr ⟨wJ.out.trans (if_neg iV),rfl⟩⟩
 have zP:Hid (F=if p+2+2<=t.size/\(ax t (p+2) 2:Int)=1 then
  if p+2+2+4<=t.size then
   if p+2+2+4+2<=t.size then AQ t p (mB t (p+2+2+4+2) nm (ax t p 2) (ax t (p+2+2) 4)) else Y
  else Y
  else Y):=wJ.out.trans (if_pos hle)
 have H3:Hid (Rx g (w.heap.size+1) t wq (p+2) #[I nm,O J 0,O J 0,O J 0,I ⟨#[]⟩,O J 0,I ⟨#[]⟩] w2):=H2.out.call h1 h2;have c1:w2.cell? ⟨w.heap.size+1,1,Y⟩=Z (O J 0):=H3.out.cell 1;have z1:=H3.out.free 1;clear h1 h2 H1 H2 c0 z0 wJ;generalize(ax t p 2:Int)=ty at *;go_wp2_with fail;have H4:Hid (Rx g (w.heap.size+1) t wq (p+2) #[I nm,O J ty,O J 0,O J 0,I ⟨#[]⟩,O J 0,I ⟨#[]⟩] (w2.setCell ⟨w.heap.size+1,1,Y⟩ (O J ty))):=H3.out.store 1 (O J ty);refine(ik g (p+2) 2 1 t _ H4.out.dE hs hle (by omega)).mono ?_;rintro e w3 ⟨h2,⟨aar,rfl,h1⟩|⟨iV,rfl⟩⟩;rotate_left
 .exact⟨rfl,(H4.out.gone h2).rd WS.out (by omega),.inr ⟨zP.out.trans (if_neg iV),rfl⟩⟩
 have TW:Hid (F=if p+2+2+4<=t.size then
  if p+2+2+4+2<=t.size then AQ t p (mB t (p+2+2+4+2) nm ty (ax t (p+2+2) 4)) else Y
  else Y):=zP.out.trans (if_pos aar)
 have H5:Hid (Rx g (w.heap.size+1) t wq (p+2+2) #[I nm,O J ty,O J 0,O J 0,I ⟨#[]⟩,O J 0,I ⟨#[]⟩] w3):=H4.out.call h1 h2;have ahj:=aar.1;clear h1 h2 H3 H4 c1 z1 zP aar;go_wp2_with fail;refine(ew g (p+2+2) 4 t _ H5.out.dE hs ahj (by omega)).mono ?_;rintro e w4 ⟨h2,⟨ac8,rfl,h1⟩|⟨iV,rfl⟩⟩;rotate_left
 .exact⟨rfl,(H5.out.gone h2).rd WS.out (by omega),.inr ⟨TW.out.trans (if_neg iV),rfl⟩⟩
 have HF5:Hid (F=if p+2+2+4+2<=t.size then AQ t p (mB t (p+2+2+4+2) nm ty (ax t (p+2+2) 4)) else Y):=TW.out.trans (if_pos ac8);have H6:Hid (Rx g (w.heap.size+1) t wq (p+2+2+4) #[I nm,O J ty,O J 0,O J 0,I ⟨#[]⟩,O J 0,I ⟨#[]⟩] w4):=H5.out.call h1 h2;have c2:w4.cell? ⟨w.heap.size+1,2,Y⟩=Z (O J 0):=H6.out.cell 2;have z2:=H6.out.free 2;clear h1 h2 H5 TW;generalize(ax t (p+2+2) 4:Int)=la at *;go_wp2_with fail;have H7:Hid (Rx g (w.heap.size+1) t wq (p+2+2+4) #[I nm,O J ty,O J la,O J 0,I ⟨#[]⟩,O J 0,I ⟨#[]⟩] (w4.setCell ⟨w.heap.size+1,2,Y⟩ (O J la))):=H6.out.store 2 (O J la);refine(ew g (p+2+2+4) 2 t _ H7.out.dE hs ac8 (by omega)).mono ?_;rintro e w5 ⟨h2,⟨ac9,rfl,h1⟩|⟨iV,rfl⟩⟩;rotate_left
 .exact⟨rfl,(H7.out.gone h2).rd WS.out (by omega),.inr ⟨HF5.out.trans (if_neg iV),rfl⟩⟩
 have HF6:Hid (F=AQ t p (mB t (p+2+2+4+2) nm ty la)):=HF5.out.trans (if_pos ac9);have H8:Hid (Rx g (w.heap.size+1) t wq (p+2+2+4+2) #[I nm,O J ty,O J la,O J 0,I ⟨#[]⟩,O J 0,I ⟨#[]⟩] w5):=H7.out.call h1 h2;clear h1 h2 H6 H7 c2 z2 HF5;have HRH:Hid (∀r q,AQ t p (Z (r,q))=if(q:Int)-((p+2+2+4+2:Nat):Int)=(ax t (p+2+2+4) 2:Int) then Z (r,q) else Y):=λr q=>rfl;have HRN:Hid (AQ t p Y=Y):=rfl;generalize(ax t (p+2+2+4) 2:Int)=sz at *;generalize hB:p+2+2+4+2=B at *;clear hB;have ca:w5.cell? ⟨g,1,Y⟩=Z (O J (B:Int)):=H8.out.dE.c1;go_wp2_with fail;refine(aan g (w.heap.size+1) B t nm ty la wq w5 H8.out hs ac9).mono ?_;rintro e w9 (⟨r,q,h3,hq,⟨k1,k2,k3⟩,rfl,H9⟩|⟨h3,rfl,h9⟩);rotate_left
 .exact⟨rfl,h9.out.rd WS.out (by omega),.inr ⟨by rw[HF6.out,h3,HRN.out],rfl⟩⟩
 have WT:Hid (F=if(q:Int)-(B:Int)=sz then Z (r,q) else Y):=(show _=_ by rw[HF6.out,h3,HRH.out]);have AR:r.ok:=⟨by rw[k1];unfold Ij;omega,by unfold Ij;omega,by unfold Ij;omega⟩;have pA:Hid (w9.heap[w.heap.size]?=Z (AT #[I ⟨#[]⟩,O J 0,O J 0,O J 0,I ⟨#[]⟩,O J 0,I ⟨#[]⟩] 64 (0,0))):=(H9.out.block _ (by omega) (by omega) (by omega)).trans HGQ.out;have cb:w9.cell? ⟨g,1,Y⟩=Z (O J (q:Int)):=H9.out.dE.c1;clear H8 ca HF6 h3 HRH HRN k1 k2 k3;have ahk:Hid r.ok:=AR;clear AR;have m0:w9.cell? ⟨w.heap.size+1,0,Y⟩=Z (I r.name):=H9.out.cell 0;have q0:w9.cell? ⟨w.heap.size,0,Y⟩=Z (I ⟨#[]⟩):=af pA.out 0;have y0:w9.frozen? ⟨w.heap.size,0,Y⟩=false:=by simp[Ig,pA.out]
 have m1:w9.cell? ⟨w.heap.size+1,1,Y⟩=Z (O J r.an):=H9.out.cell 1;have q1:w9.cell? ⟨w.heap.size,1,Y⟩=Z (O J 0):=af pA.out 1;have y1:w9.frozen? ⟨w.heap.size,1,Y⟩=false:=by simp[Ig,pA.out]
 have m2:w9.cell? ⟨w.heap.size+1,2,Y⟩=Z (O J r.aK):=H9.out.cell 2;have q2:w9.cell? ⟨w.heap.size,2,Y⟩=Z (O J 0):=af pA.out 2;have y2:w9.frozen? ⟨w.heap.size,2,Y⟩=false:=by simp[Ig,pA.out]
 have m3:w9.cell? ⟨w.heap.size+1,3,Y⟩=Z (O J r.addr):=H9.out.cell 3;have q3:w9.cell? ⟨w.heap.size,3,Y⟩=Z (O J 0):=af pA.out 3;have y3:w9.frozen? ⟨w.heap.size,3,Y⟩=false:=by simp[Ig,pA.out]
 have m4:w9.cell? ⟨w.heap.size+1,4,Y⟩=Z (I r.text):=H9.out.cell 4;have q4:w9.cell? ⟨w.heap.size,4,Y⟩=Z (I ⟨#[]⟩):=af pA.out 4;have y4:w9.frozen? ⟨w.heap.size,4,Y⟩=false:=by simp[Ig,pA.out]
 have m5:w9.cell? ⟨w.heap.size+1,5,Y⟩=Z (O J r.port):=H9.out.cell 5;have q5:w9.cell? ⟨w.heap.size,5,Y⟩=Z (O J 0):=af pA.out 5;have y5:w9.frozen? ⟨w.heap.size,5,Y⟩=false:=by simp[Ig,pA.out]
 have m6:w9.cell? ⟨w.heap.size+1,6,Y⟩=Z (I r.target):=H9.out.cell 6;have q6:w9.cell? ⟨w.heap.size,6,Y⟩=Z (I ⟨#[]⟩):=af pA.out 6;have y6:w9.frozen? ⟨w.heap.size,6,Y⟩=false:=by simp[Ig,pA.out]
 have WQ:IntKind.i64.wrap ((q:Int)-(B:Int))=(q:Int)-(B:Int):=by rw[IK];omega
 by_cases bA:(q:Int)-(B:Int)=sz
 .have hbq:((q:Int)-(B:Int)==sz)=true:=by simpa using bA
  have HF8:Hid (F=Z (r,q)):=WT.out.trans (if_pos bA);clear bA WT;go_wp2_with fail;refine(cy _ _).mono ?_;rintro e w10 ⟨rfl,NU⟩;subst NU;go_wp2_with fail;refine Ix (v:=mu r) ?_ rfl ⟨?_,.inl ⟨r,q,HF8.out,hq,ahk.out,rfl,?_⟩⟩
  .simp[results,Tryz.results103,go_sem,q0,q1,q2,q3,q4,q5,q6]
  .have Dx:Rd g w w10:=H9.out.ry.rd WS.out (by omega)
   exact(((((((Dx.put 0 _ (By _)).put 1 _ (By _)).put 2 _ (By _)).put 3 _ (By _)).put 4 _ (By _)).put 5 _ (By _)).put 6 _ (By _))
  .exact((((((((H9.out.dE).put 0 _ (by omega)).put 1 _ (by omega)).put 2 _ (by omega)).put 3 _ (by omega)).put 4 _ (by omega)).put 5 _ (by omega)).put 6 _ (by omega))
 .have hbq:((q:Int)-(B:Int)==sz)=false:=by simpa using bA
  have HF8:Hid (F=Y):=WT.out.trans (if_neg bA);clear bA WT;go_wp2_with fail;refine(dd _ _).mono ?_;rintro e w10 ⟨rfl,NU⟩;subst NU;exact⟨rfl,H9.out.ry.rd WS.out (by omega),.inr ⟨HF8.out,rfl⟩⟩
theorem Tryz.Fq:(Tryz.prog.info? 64).map (λi=>(i.zero,i.size,i.bytes))=Z (Z (Im #[I ⟨#[]⟩,O J 0,O J 0,O J 0,I ⟨#[]⟩,O J 0,I ⟨#[]⟩]),7,80):=by kernel_rfl
theorem Rd.T0{g base:Nat}{w w':World}{v:Value}{l:List Rc.Rec}(h:Rd g w w')(ho:Rc.Own base w v l)(hg:g<base):Rc.Own base w' v l:=by
 rcases ho.2 with⟨rfl,h0⟩|⟨k,c,cur,rfl,dQ,hk,eC,dj,cM,aO⟩
 .exact⟨ho.1,.inl ⟨rfl,h0⟩⟩
 .have aL:k<w.heap.size:=(Ia.1 hk).1
  exact⟨ho.1,.inr ⟨k,c,cur,rfl,dQ,(h.block k aL (by omega)).trans hk,eC,dj,cM,aO⟩⟩
theorem NV(aB cut:Bool):(bits .and J (pc aB cut) 128 !=0)=aB/\(bits .and J (pc aB cut) 2 !=0)=cut/\0<=pc aB cut/\pc aB cut<256^1:=by
 cases aB<;>cases cut<;>decide
theorem St.grown{g a:Nat}{t:ByteArray}{w W W':World}{T:TypeId}{zs cs:Array Value}{row:Option Nat}(h:St g t w T zs a cs W)(hg:W.grownBy W' row)(bu:∀q,q<w.heap.size+2->Z q≠row):St g t w T zs a cs W':=by
 have hl:=h.lt;have al:w.heap.size+1<W.heap.size:=(Ia.1 h.bx).1;have hblk:∀q,q<w.heap.size+2->W'.heap[q]?=W.heap[q]?:=λq hq=>hg.block q (by omega) (bu q hq);refine⟨⟨?_,?_,?_,?_⟩,⟨hg.os.trans h.rd.os,hg.tape.trans h.rd.tape,hg.output.trans h.rd.output,Ir h.rd.size hg.size,λq hq hqg=>(hblk q (by omega)).trans (h.rd.block q hq hqg)⟩,(hblk _ (by omega)).trans h.qx,(hblk _ (by omega)).trans h.bx,hl⟩
 .exact(Ol (a:=⟨g,0,Y⟩) (hblk g (by omega))).trans h.dE.c0
 .exact(Ol (a:=⟨g,1,Y⟩) (hblk g (by omega))).trans h.dE.c1
 .exact(World.frozen?_of_block (a:=⟨g,1,Y⟩) (hblk g (by omega))).trans h.dE.hz
 .exact Iv h.dE.hg hg.size
theorem aY{base b i:Nat}{u v:Value}{l:List Rc.Rec}{W:World}(h:Rc.Own base W v l)(hb:b<base):Rc.Own base (W.setCell ⟨b,i,Y⟩ u) v l:=by
 rcases h.2 with⟨rfl,h0⟩|⟨k,c,cur,rfl,dQ,hk,r⟩
 .exact⟨h.1,.inl ⟨rfl,h0⟩⟩
 .exact⟨h.1,.inr ⟨k,c,cur,rfl,dQ,(IB W _ u k (by simp;omega)).trans hk,r⟩⟩
theorem NW(g:Nat)(id code an:Int)(aB cut:Bool)(R:ByteArray)(rs:List Rc.Rec)(t:ByteArray)(w:World)(h:dR g t 0 w)(hs:t.size<=1000)(hc:bn id code an R rs=0)(ht:t.data.toList=cL id code an aB cut R rs)(ahl:(0<=id/\id<256^2)/\(0<=code/\code<256^1)/\(0<=an/\an<256^2)) :
 Calls be 52 #[If (Z ⟨g,0,Y⟩)] w λe w'=>∃v,e=sh (Im #[O J id,AI aB,AI cut,O J code,I R,O J an,v])/\Hid (Rd g w w')/\Hid (Rc.Own (w.heap.size+2) w' v rs):=by
 obtain⟨h20,ft,sX⟩:=cX hc;obtain⟨⟨q1,q2⟩,⟨q3,q4⟩,q5,q6⟩:=ahl;obtain⟨hfa,hfc,hf0,hf1⟩:=NV aB cut;have cA:qH t 0 (cL id code an aB cut R rs):=⟨[],[],by simpa using ht,rfl⟩;have ada:t.size=(cL id code an aB cut R rs).length:=by rw[<- ht];simp
 unfold cL mx at cA ada;simp only[I1] at cA;have a0:=cA.left;have b0:=cA.right;rw[bo] at b0;have a2:=b0.left;have b2:=b0.right;rw[bo] at b2;have a3:=b2.left;have b3:=b2.right;rw[bo] at b3;have a4:=b3.left;have b4:=b3.right;rw[bo] at b4;have a6:=b4.left;have b6:=b4.right;rw[bo] at b6;have a8:=b6.left;have b8:=b6.right;rw[bo] at b8;have a10:=b8.left;have b10:=b8.right;rw[bo] at b10;have a12:=b10.left;have b12:=b10.right;have ap:=b12.left;have bp:=b12.right;rw[bo] at bp;have aq:=bp.left;have bq:=bp.right;rw[bo] at bq;have e0:=de q1 q2 a0;have e2:=de hf0 hf1 a2;have e3:=de q3 q4 a3;have e4:=de (n:=1) (by omega) (by omega) a4;have e6:=de (n:=rs.length) (by omega) (by omega) a6;have e8:=de (n:=0) (by omega) (by omega) a8;have e10:=de (n:=0) (by omega) (by omega) a10;have ep:=de q5 q6 ap;have eq:=de (n:=1) (by omega) (by omega) aq;simp only[Ii,bo,Nat.zero_add] at *;obtain⟨p,hp⟩:∃p,p=12+(cG R).length:=⟨_,rfl⟩;have hpp:2+1+1+2+2+2+2+(cG R).length=p:=by omega
 rw[hpp] at ap aq ep eq bp bq;have h12:12<=p:=by omega
 have lP:p+4<=t.size:=by omega
 have nH:∀k,k<rs.length->qH t (p+4+((rs.take k).flatMap dv).length) (dv (rs.getD k Rc.dm)):=λk hk=>by
  have e:rs.flatMap dv=(rs.take k).flatMap dv++(dv (rs.getD k Rc.dm)++(rs.drop (k+1)).flatMap dv):=by
   have h1:rs=rs.take k++(rs[k]::rs.drop (k+1)):=by rw[<- List.drop_eq_getElem_cons hk,List.take_append_drop]
   have h2:rs.getD k Rc.dm=rs[k]:=by simp[Io,Ic hk]
   rw[h2]
   calc rs.flatMap dv=(rs.take k++(rs[k]::rs.drop (k+1))).flatMap dv:=by rw[<- h1]
    _=_:=by rw[QG,JY]
  rw[e] at bq;exact bq.right.left
 have HPS:Hid (∀k,k<rs.length->p+4+((rs.take (k+1)).flatMap dv).length=p+4+((rs.take k).flatMap dv).length+(dv (rs.getD k Rc.dm)).length):=λk hk=>by
  rw[Iw hk,QG,Ii];simp[Io,hk];omega
 have aaw:Hid (∀k,k<rs.length->∀W,dR g t (p+4+((rs.take k).flatMap dv).length) W->Calls be 103 #[If (Z ⟨g,0,Y⟩)] W λe w'=>e=sh (mu (rs.getD k Rc.dm))/\Hid (dR g t (p+4+((rs.take (k+1)).flatMap dv).length) w')/\Hid (Rd g W w')):=λk hk W hW=>by
  rw[HPS.out k hk];exact NT g _ _ t W hW hs (sX _ (by simp[Io,Ic hk])) (nH k hk)
 have HTK:Hid (∀k,k<rs.length->rs.take (k+1)=rs.take k++[rs.getD k Rc.dm]):=λk hk=>by
  rw[Iw hk];simp[Io,hk]
 have ahm:Hid (p+4+((rs.take rs.length).flatMap dv).length=t.size):=(show _=_ by rw[OC];omega);have HTL:Hid (∀k,k<=rs.length->(rs.take k).length=k):=λk hk=>by rw[List.length_take];omega
 have Nx:Hid (rs.take rs.length=rs):=OC;have HN:Hid (∀W,dR g t 12 W->Calls be 102 #[If (Z ⟨g,0,Y⟩)] W λe w'=>e=sh (I R)/\Hid (dR g t p w')/\Hid (Rd g W w')):=λW hW=>by
  have h:=qI g 12 R t W hW hs ft a12;rw[<- hp] at h;exact h
 have HI:Hid (dR g t 0 w):=h;have hg:=h.hg;have E0:Hid ((ax t 0 2:Int)=id):=e0;have E2:Hid ((ax t 2 1:Int)=pc aB cut):=e2;have E3:Hid ((ax t 3 1:Int)=code):=e3;have e4:((ax t 4 2:Nat):Int)=1:=e4;have e8:((ax t 8 2:Nat):Int)=0:=e8;have e10:((ax t 10 2:Nat):Int)=0:=e10;have E4:Hid (ax t 4 2=1):=(show _=_ by omega);have E6:Hid ((ax t 6 2:Int)=(rs.length:Int)):=e6;have E8:Hid (ax t 8 2=0):=(show _=_ by omega);have E10:Hid (ax t 10 2=0):=(show _=_ by omega);have EP:Hid ((ax t p 2:Int)=an):=ep;have EQ:Hid (ax t (p+2) 2=1):=(show _=_ by omega);have Dy:Hid ((bits .and J (pc aB cut) 128 !=0)=aB):=hfa;have SJ:Hid ((bits .and J (pc aB cut) 2 !=0)=cut):=hfc;clear h ht hc ada cA a0 b0 a2 b2 a3 b3 a4 b4 a6 b6 a8 b8 a10 b10 a12 b12 ap bp aq bq e0 e2 e3 e4 e6 e8 e10 ep eq hpp hp nH sX ft hfa hfc hf0 hf1 q1 q2 q3 q4 q5 q6;obtain⟨F,hF⟩:∃F,F=pc aB cut:=⟨_,rfl⟩;rw[<- hF] at E2 Dy SJ;have GQ:Hid (pc aB cut=F):=hF.symm;clear hF;generalize Ns:rs.length=n at *;have sq:Hid (rs.length=n):=Ns;clear Ns;go_enter Tryz.func52,Tryz.ntmps52;go_wp2_with fail;obtain⟨w0,dJ⟩:∃w0,w0=(w.alloc (AT aQ 43)).alloc (AT aQ 43):=⟨_,rfl⟩;rw[<- dJ];have S0:Hid (St g t w 43 aQ 0 aQ w0):=(show St _ _ _ _ _ _ _ _ by
  have hx:w.Extends w0:=by rw[dJ];exact((Iy w).alloc _).alloc _
  refine⟨HI.out.ext hx,Rd.ext hx,?_,?_,hg⟩
  .rw[dJ]
   exact(I9 _ _ _ (by simp)).trans (Ie w _)
  .rw[dJ]
   have:=Ie (w.alloc (AT aQ 43)) (AT aQ 43);simpa using this)
 clear dJ;refine(dw g 0 2 t w0 S0.out.dE hs (by omega) (by omega)).mono ?_;rintro e w1 ⟨rfl,h1,h2⟩;rw[E0.out];have S1:Hid (St g t w 43 aQ 2 aQ w1):=S0.out.call h1 h2;have z1:=S1.out.free 0;have c1:w1.cell? ⟨w.heap.size+1,0,Y⟩=Z (O J 0):=S1.out.cell 0;clear h1 h2 S0;go_wp2_with fail;have S2:Hid (St g t w 43 aQ 2 #[O J id,AI false,AI false,O J 0,I ⟨#[]⟩,O J 0,U Y 0 0] (w1.setCell ⟨w.heap.size+1,0,Y⟩ (O J id))):=S1.out.store 0 (O J id);refine(dw g 2 1 t _ S2.out.dE hs (by omega) (by omega)).mono ?_;rintro e w2 ⟨rfl,h1,h2⟩;rw[E2.out];have S3:Hid (St g t w 43 aQ 3 #[O J id,AI false,AI false,O J 0,I ⟨#[]⟩,O J 0,U Y 0 0] w2):=S2.out.call h1 h2;have z1:=S3.out.free 1;have z2:=S3.out.free 2;have c0:w2.cell? ⟨w.heap.size+1,0,Y⟩=Z (O J id):=S3.out.cell 0;have c1:w2.cell? ⟨w.heap.size+1,1,Y⟩=Z (AI false):=S3.out.cell 1;have c2:w2.cell? ⟨w.heap.size+1,2,Y⟩=Z (AI false):=S3.out.cell 2;have c3:w2.cell? ⟨w.heap.size+1,3,Y⟩=Z (O J 0):=S3.out.cell 3;have c4:w2.cell? ⟨w.heap.size+1,4,Y⟩=Z (I ⟨#[]⟩):=S3.out.cell 4;have c5:w2.cell? ⟨w.heap.size+1,5,Y⟩=Z (O J 0):=S3.out.cell 5;have c6:w2.cell? ⟨w.heap.size+1,6,Y⟩=Z (U Y 0 0):=S3.out.cell 6;have al:=Dy.out;have aC:=SJ.out;clear h1 h2 S1 S2;go_wp2_with fail;have S4:Hid (St g t w 43 aQ 3 #[O J id,AI aB,AI cut,O J 0,I ⟨#[]⟩,O J 0,U Y 0 0] ((w2.setCell ⟨w.heap.size+1,1,Y⟩ (AI aB)).setCell ⟨w.heap.size+1,2,Y⟩ (AI cut))):=(S3.out.store 1 (AI aB)).store 2 (AI cut);refine(nx id 0 0 aB cut ⟨#[]⟩ _).mono ?_;rintro e w3 ⟨rfl,o,zN⟩;rw[GQ.out];have S5:Hid (St g t w 43 aQ 3 #[O J id,AI aB,AI cut,O J 0,I ⟨#[]⟩,O J 0,U Y 0 0] w3):=(show St _ _ _ _ _ _ _ _ by rw[zN];exact S4.out.keep ((Iy _).alloc _));clear zN z1 z2 c0 c1 c2 c3 c4 c5 c6 S3 S4;go_wp2_with fail;refine(cy _ _).mono ?_;rintro e w4 ⟨rfl,yD⟩;subst yD;go_wp2_with fail;refine(dw g 3 1 t _ S5.out.dE hs (by omega) (by omega)).mono ?_;rintro e w5 ⟨rfl,h1,h2⟩;rw[E3.out];have S6:Hid (St g t w 43 aQ 4 #[O J id,AI aB,AI cut,O J 0,I ⟨#[]⟩,O J 0,U Y 0 0] w5):=S5.out.call h1 h2;have z3:=S6.out.free 3;have c3:w5.cell? ⟨w.heap.size+1,3,Y⟩=Z (O J 0):=S6.out.cell 3;clear h1 h2 S5;go_wp2_with fail;have S7:Hid (St g t w 43 aQ 4 #[O J id,AI aB,AI cut,O J code,I ⟨#[]⟩,O J 0,U Y 0 0] (w5.setCell ⟨w.heap.size+1,3,Y⟩ (O J code))):=S6.out.store 3 (O J code);refine(eP g 4 2 1 t _ S7.out.dE hs (by omega) (by omega) E4.out).mono ?_;rintro e w6 ⟨rfl,h1,h2⟩;have S8:Hid (St g t w 43 aQ 6 #[O J id,AI aB,AI cut,O J code,I ⟨#[]⟩,O J 0,U Y 0 0] w6):=S7.out.call h1 h2;clear h1 h2 S6 S7 z3 c3;go_wp2_with fail;refine(dw g 6 2 t _ S8.out.dE hs (by omega) (by omega)).mono ?_;rintro e w7 ⟨rfl,h1,h2⟩;rw[E6.out];have S9:Hid (St g t w 43 aQ 8 #[O J id,AI aB,AI cut,O J code,I ⟨#[]⟩,O J 0,U Y 0 0] w7):=S8.out.call h1 h2;clear h1 h2 S8;go_wp2_with fail;refine(eP g 8 2 0 t _ S9.out.dE hs (by omega) (by omega) E8.out).mono ?_;rintro e w8 ⟨rfl,h1,h2⟩;have SA:Hid (St g t w 43 aQ 10 #[O J id,AI aB,AI cut,O J code,I ⟨#[]⟩,O J 0,U Y 0 0] w8):=S9.out.call h1 h2;clear h1 h2 S9;go_wp2_with fail;refine(eP g 10 2 0 t _ SA.out.dE hs (by omega) (by omega) E10.out).mono ?_;rintro e w9 ⟨rfl,h1,h2⟩;have SB:Hid (St g t w 43 aQ 12 #[O J id,AI aB,AI cut,O J code,I ⟨#[]⟩,O J 0,U Y 0 0] w9):=SA.out.call h1 h2;clear h1 h2 SA;go_wp2_with fail;refine(HN.out _ SB.out.dE).mono ?_;rintro e wa ⟨rfl,h1,h2⟩;have SC:Hid (St g t w 43 aQ p #[O J id,AI aB,AI cut,O J code,I ⟨#[]⟩,O J 0,U Y 0 0] wa):=SB.out.call h1 h2;have z4:=SC.out.free 4;have c4:wa.cell? ⟨w.heap.size+1,4,Y⟩=Z (I ⟨#[]⟩):=SC.out.cell 4;clear h1 h2 SB;go_wp2_with fail;have SD:Hid (St g t w 43 aQ p #[O J id,AI aB,AI cut,O J code,I R,O J 0,U Y 0 0] (wa.setCell ⟨w.heap.size+1,4,Y⟩ (I R))):=SC.out.store 4 (I R);refine(dw g p 2 t _ SD.out.dE hs (by omega) (by omega)).mono ?_;rintro e wb ⟨rfl,h1,h2⟩;rw[EP.out];have SE:Hid (St g t w 43 aQ (p+2) #[O J id,AI aB,AI cut,O J code,I R,O J 0,U Y 0 0] wb):=SD.out.call h1 h2;have z5:=SE.out.free 5;have c5:wb.cell? ⟨w.heap.size+1,5,Y⟩=Z (O J 0):=SE.out.cell 5;clear h1 h2 SC SD z4 c4;go_wp2_with fail;have SF:Hid (St g t w 43 aQ (p+2) #[O J id,AI aB,AI cut,O J code,I R,O J an,U Y 0 0] (wb.setCell ⟨w.heap.size+1,5,Y⟩ (O J an))):=SE.out.store 5 (O J an);refine(eP g (p+2) 2 1 t _ SF.out.dE hs (by omega) (by omega) EQ.out).mono ?_;rintro e wc ⟨rfl,h1,h2⟩;have SG:Hid (St g t w 43 aQ (p+4) #[O J id,AI aB,AI cut,O J code,I R,O J an,U Y 0 0] wc):=SF.out.call h1 h2;clear h1 h2 SE SF z5 c5;go_wp2_with fail;have SG0:Hid (St g t w 43 aQ (p+4+((rs.take 0).flatMap dv).length) #[O J id,AI aB,AI cut,O J code,I R,O J an,(U Y 0 0)] wc):=(show St _ _ _ _ _ _ _ _ by simpa using SG.out);have hzw:w.heap.size+2<=wc.heap.size:=(Ia.1 SG.out.bx).1;obtain⟨i0,ei,bW,fs,eU⟩:=info_parts Tryz.Fq;clear SG;go_loopw [46] (λi wr=>∃(k:Nat) (v:Value),k<=n/\i=O J k/\Hid (St g t w 43 aQ (p+4+((rs.take k).flatMap dv).length) #[O J id,AI aB,AI cut,O J code,I R,O J an,v] wr)/\Hid (Rc.Own (w.heap.size+2) wr v (rs.take k))/\w.heap.size+2<=wr.heap.size) (λi _=>n-(intOf i).toNat)
 case atStart=>exact⟨0,U Y 0 0,Nat.zero_le _,rfl,SG0,World.ownsRow_nil _ _ _ _,hzw⟩
 case round=>
  obtain⟨k,v,hk,rfl,HS,HO,bA⟩:=hrel;by_cases aL:k<n
  .have hd:decide ((k:Int)<(n:Int))=true:=by simp;omega
   have HRK:=aaw.out k aL wr.drew (HS.out.dE.ext (Iy _).drew);have Hj:Hid (Calls be 103 #[If (Z ⟨g,0,Y⟩)] wr.drew λe w'=>e=sh (mu (rs.getD k Rc.dm))/\Hid (dR g t (p+4+((rs.take (k+1)).flatMap dv).length) w')/\Hid (Rd g wr.drew w')):=HRK;have SK:=HTK.out k aL;have si:Hid (rs.take (k+1)=rs.take k++[rs.getD k Rc.dm]):=SK;have HLk:=HTL.out k hk;clear HRK SK;generalize rs.getD k Rc.dm=r at *;have hvw:wr.cell? ⟨w.heap.size+1,6,Y⟩=Z v:=HS.out.cell 6;go_wp2_with fail;refine wp_region_any (by kernel_rfl) ?_;refine wpAny_take (i:=0) (v:=If (Z ⟨w.heap.size+1,6,Y⟩)) rfl (by kernel_rfl) (by kernel_rfl) (by kernel_rfl) (λ_ _ _ h=>h) (Or.inl ⟨by rfl,?_⟩) ?_
   .intro W
    go_simp
   refine wpAny_take (i:=2) (v:=If (Z ⟨g,0,Y⟩)) rfl (by kernel_rfl) (by kernel_rfl) (by kernel_rfl) (λ_ _ _ h=>h) (Or.inl ⟨by rfl,?_⟩) ?_
   .intro W
    go_simp
   refine Je (rs:=[1,3]) (by kernel_rfl) (by simp) ?_;refine IU rfl (λK hK=>?_) (IU rfl (λK hK=>?_) I7)
   .have HK:Hid _:=hK
    clear hK;go_simp;refine HK.out _ _ ?_;clear HK K;refine Je (rs:=[3]) (by kernel_rfl) (by simp) ?_;refine IU rfl (λK hK=>?_) I7;have HK:Hid _:=hK;clear hK;go_simp;refine Hj.out.mono ?_;rintro e w5 ⟨rfl,h1,h2⟩;have wK:Hid (St g t w 43 aQ (p+4+((rs.take (k+1)).flatMap dv).length) #[O J id,AI aB,AI cut,O J code,I R,O J an,v] w5):=(HS.out.keep (Iy _).drew).call h1 h2;have nT:Hid (Rc.Own (w.heap.size+2) w5 v (rs.take k)):=h2.out.T0 (Ql HO.out) (by omega);have gG:w.heap.size+2<=w5.heap.size:=Ir bA h2.out.size;have NX:w5.cell? ⟨w.heap.size+1,6,Y⟩=Z v:=wK.out.cell 6;clear h1 h2;refine HK.out _ _ ?_;clear HK K;refine Je (rs:=[4]) (by kernel_rfl) (by simp) ?_;refine IU rfl (λK hK=>?_) I7;have HK:Hid _:=hK;clear hK;go_simp;refine HK.out _ _ ?_;clear HK K;refine Je (rs:=[5]) (by kernel_rfl) (by simp) ?_;refine IU rfl (λK hK=>?_) I7;have HK:Hid _:=hK;clear hK;rw[if_pos (by rfl)];refine Uk _ _ _ 41 rfl (w.heap.size+2) 64 i0 _ 7 80 O3 ei bW fs eU rfl (by omega) v (rs.take k).length (Rc.fl (rs.take k)) rfl (J9 nT.out _) ⟨w5.heap.size,0,Y⟩ 1 1 r.cs rfl rfl (Oo (cs:=#[I r.name,O J r.an,O J r.aK,O J r.addr,I r.text,O J r.port,I r.target]) (t:=64) (fr:=(0,0)) (Ie w5 _)) (Rc.cC r) (by unfold Ij;omega) (by omega) (by simp;omega) ?_;intro v' w6 r1 r2 r3;obtain⟨ao,l',c',rO⟩:∃ao l' c',v'=U ao l' c':=by
     rcases r1.2 with⟨hv,_⟩|⟨gq,cq,_,hv,_⟩
     .exact⟨_,_,_,hv⟩
     .exact⟨_,_,_,hv⟩
    subst rO;have mC:w5.Extends (w5.alloc (AT #[I r.name,O J r.an,O J r.aK,O J r.addr,I r.text,O J r.port,I r.target] 64)):=(Iy w5).alloc _;have mD:∀q,q<w.heap.size+2->Z q≠v.ownBlock:=λq hq e=>by have:=(nT.out.lt q e.symm).1;omega
    have mF:Hid (St g t w 43 aQ (p+4+((rs.take (k+1)).flatMap dv).length) #[O J id,AI aB,AI cut,O J code,I R,O J an,v] w6):=(show St _ _ _ _ _ _ _ _ from(wK.out.keep mC).grown r2 (λq hq=>mD q hq));have ny:Hid (Rc.Own (w.heap.size+2) w6 (U ao l' c') (rs.take (k+1))):=(show Rc.Own _ _ _ _ by rw[si.out];exact Rc.eM r1);have tX:w.heap.size+2<=w6.heap.size:=by have:=r2.size;simp at this;omega
    have NY:w6.cell? ⟨w.heap.size+1,6,Y⟩=Z v:=mF.out.cell 6;have Fs:=mF.out.free 6;clear r1 r2 r3 mC mD wK nT gG NX;refine HK.out _ _ ?_;clear HK K;refine Je (rs:=[6]) (by kernel_rfl) (by simp) ?_;refine IU rfl (λK hK=>?_) I7;have HK:Hid _:=hK;clear hK;go_simp;refine HK.out _ _ ?_;clear HK K;refine Je (rs:=[7]) (by kernel_rfl) (by simp) ?_;refine IU rfl (λK hK=>?_) I7;have HK:Hid _:=hK;clear hK;go_simp;refine HK.out _ _ ?_;clear HK K;refine wpAny_done (by kernel_rfl) ?_ _;have xD:Hid (St g t w 43 aQ (p+4+((rs.take (k+1)).flatMap dv).length) #[O J id,AI aB,AI cut,O J code,I R,O J an,U ao l' c'] (w6.setCell ⟨w.heap.size+1,6,Y⟩ (U ao l' c'))):=mF.out.store 6 (U ao l' c');have NZ:Hid (Rc.Own (w.heap.size+2) (w6.setCell ⟨w.heap.size+1,6,Y⟩ (U ao l' c')) (U ao l' c') (rs.take (k+1))):=aY ny.out (by omega);have Cw:w.heap.size+2<=(w6.setCell ⟨w.heap.size+1,6,Y⟩ (U ao l' c')).heap.size:=by simpa using tX
    clear mF ny tX NY Fs;go_wp2_with fail;exact⟨⟨k+1,U ao l' c',by omega,by go_num,xD,NZ,Cw⟩,by simp[intOf];omega⟩
   .have HK:Hid _:=hK
    clear hK;go_simp;refine Hj.out.mono ?_;rintro e w5 ⟨rfl,h1,h2⟩;have wK:Hid (St g t w 43 aQ (p+4+((rs.take (k+1)).flatMap dv).length) #[O J id,AI aB,AI cut,O J code,I R,O J an,v] w5):=(HS.out.keep (Iy _).drew).call h1 h2;have nT:Hid (Rc.Own (w.heap.size+2) w5 v (rs.take k)):=h2.out.T0 (Ql HO.out) (by omega);have gG:w.heap.size+2<=w5.heap.size:=Ir bA h2.out.size;have NX:w5.cell? ⟨w.heap.size+1,6,Y⟩=Z v:=wK.out.cell 6;clear h1 h2;refine HK.out _ _ ?_;clear HK K;refine Je (rs:=[1,4]) (by kernel_rfl) (by simp) ?_;refine IU rfl (λK hK=>?_) (IU rfl (λK hK=>?_) I7)
    .have HK:Hid _:=hK
     clear hK;go_simp;refine HK.out _ _ ?_;clear HK K;refine Je (rs:=[4]) (by kernel_rfl) (by simp) ?_;refine IU rfl (λK hK=>?_) I7;have HK:Hid _:=hK;clear hK;go_simp;refine HK.out _ _ ?_;clear HK K;refine Je (rs:=[5]) (by kernel_rfl) (by simp) ?_;refine IU rfl (λK hK=>?_) I7;have HK:Hid _:=hK;clear hK;rw[if_pos (by rfl)];refine Uk _ _ _ 41 rfl (w.heap.size+2) 64 i0 _ 7 80 O3 ei bW fs eU rfl (by omega) v (rs.take k).length (Rc.fl (rs.take k)) rfl (J9 nT.out _) ⟨w5.heap.size,0,Y⟩ 1 1 r.cs rfl rfl (Oo (cs:=#[I r.name,O J r.an,O J r.aK,O J r.addr,I r.text,O J r.port,I r.target]) (t:=64) (fr:=(0,0)) (Ie w5 _)) (Rc.cC r) (by unfold Ij;omega) (by omega) (by simp;omega) ?_;intro v' w6 r1 r2 r3;obtain⟨ao,l',c',rO⟩:∃ao l' c',v'=U ao l' c':=by
      rcases r1.2 with⟨hv,_⟩|⟨gq,cq,_,hv,_⟩
      .exact⟨_,_,_,hv⟩
      .exact⟨_,_,_,hv⟩
     subst rO;have mC:w5.Extends (w5.alloc (AT #[I r.name,O J r.an,O J r.aK,O J r.addr,I r.text,O J r.port,I r.target] 64)):=(Iy w5).alloc _;have mD:∀q,q<w.heap.size+2->Z q≠v.ownBlock:=λq hq e=>by have:=(nT.out.lt q e.symm).1;omega
     have mF:Hid (St g t w 43 aQ (p+4+((rs.take (k+1)).flatMap dv).length) #[O J id,AI aB,AI cut,O J code,I R,O J an,v] w6):=(show St _ _ _ _ _ _ _ _ from(wK.out.keep mC).grown r2 (λq hq=>mD q hq));have ny:Hid (Rc.Own (w.heap.size+2) w6 (U ao l' c') (rs.take (k+1))):=(show Rc.Own _ _ _ _ by rw[si.out];exact Rc.eM r1);have tX:w.heap.size+2<=w6.heap.size:=by have:=r2.size;simp at this;omega
     have NY:w6.cell? ⟨w.heap.size+1,6,Y⟩=Z v:=mF.out.cell 6;have Fs:=mF.out.free 6;clear r1 r2 r3 mC mD wK nT gG NX;refine HK.out _ _ ?_;clear HK K;refine Je (rs:=[6]) (by kernel_rfl) (by simp) ?_;refine IU rfl (λK hK=>?_) I7;have HK:Hid _:=hK;clear hK;go_simp;refine HK.out _ _ ?_;clear HK K;refine Je (rs:=[7]) (by kernel_rfl) (by simp) ?_;refine IU rfl (λK hK=>?_) I7;have HK:Hid _:=hK;clear hK;go_simp;refine HK.out _ _ ?_;clear HK K;refine wpAny_done (by kernel_rfl) ?_ _;have xD:Hid (St g t w 43 aQ (p+4+((rs.take (k+1)).flatMap dv).length) #[O J id,AI aB,AI cut,O J code,I R,O J an,U ao l' c'] (w6.setCell ⟨w.heap.size+1,6,Y⟩ (U ao l' c'))):=mF.out.store 6 (U ao l' c');have NZ:Hid (Rc.Own (w.heap.size+2) (w6.setCell ⟨w.heap.size+1,6,Y⟩ (U ao l' c')) (U ao l' c') (rs.take (k+1))):=aY ny.out (by omega);have Cw:w.heap.size+2<=(w6.setCell ⟨w.heap.size+1,6,Y⟩ (U ao l' c')).heap.size:=by simpa using tX
     clear mF ny tX NY Fs;go_wp2_with fail;exact⟨⟨k+1,U ao l' c',by omega,by go_num,xD,NZ,Cw⟩,by simp[intOf];omega⟩
    .have HK:Hid _:=hK
     clear hK;go_simp;refine HK.out _ _ ?_;clear HK K;have Ff:(w5.alloc (AT #[I r.name,O J r.an,O J r.aK,O J r.addr,I r.text,O J r.port,I r.target] 64)).cell? ⟨w.heap.size+1,6,Y⟩=Z v:=((Iy w5).alloc _).cell_of NX;refine Je (rs:=[1]) (by kernel_rfl) (by simp) ?_;refine IU rfl (λK hK=>?_) I7;have HK:Hid _:=hK;clear hK;go_simp;refine HK.out _ _ ?_;clear HK K;refine Je (rs:=[5]) (by kernel_rfl) (by simp) ?_;refine IU rfl (λK hK=>?_) I7;have HK:Hid _:=hK;clear hK;rw[if_pos (by rfl)];refine Uk _ _ _ 41 rfl (w.heap.size+2) 64 i0 _ 7 80 O3 ei bW fs eU rfl (by omega) v (rs.take k).length (Rc.fl (rs.take k)) rfl (J9 nT.out _) ⟨w5.heap.size,0,Y⟩ 1 1 r.cs rfl rfl (Oo (cs:=#[I r.name,O J r.an,O J r.aK,O J r.addr,I r.text,O J r.port,I r.target]) (t:=64) (fr:=(0,0)) (Ie w5 _)) (Rc.cC r) (by unfold Ij;omega) (by omega) (by simp;omega) ?_;intro v' w6 r1 r2 r3;obtain⟨ao,l',c',rO⟩:∃ao l' c',v'=U ao l' c':=by
      rcases r1.2 with⟨hv,_⟩|⟨gq,cq,_,hv,_⟩
      .exact⟨_,_,_,hv⟩
      .exact⟨_,_,_,hv⟩
     subst rO;have mC:w5.Extends (w5.alloc (AT #[I r.name,O J r.an,O J r.aK,O J r.addr,I r.text,O J r.port,I r.target] 64)):=(Iy w5).alloc _;have mD:∀q,q<w.heap.size+2->Z q≠v.ownBlock:=λq hq e=>by have:=(nT.out.lt q e.symm).1;omega
     have mF:Hid (St g t w 43 aQ (p+4+((rs.take (k+1)).flatMap dv).length) #[O J id,AI aB,AI cut,O J code,I R,O J an,v] w6):=(show St _ _ _ _ _ _ _ _ from(wK.out.keep mC).grown r2 (λq hq=>mD q hq));have ny:Hid (Rc.Own (w.heap.size+2) w6 (U ao l' c') (rs.take (k+1))):=(show Rc.Own _ _ _ _ by rw[si.out];exact Rc.eM r1);have tX:w.heap.size+2<=w6.heap.size:=by have:=r2.size;simp at this;omega
     have NY:w6.cell? ⟨w.heap.size+1,6,Y⟩=Z v:=mF.out.cell 6;have Fs:=mF.out.free 6;clear r1 r2 r3 mC mD wK nT gG NX;refine HK.out _ _ ?_;clear HK K;refine Je (rs:=[6]) (by kernel_rfl) (by simp) ?_;refine IU rfl (λK hK=>?_) I7;have HK:Hid _:=hK;clear hK;go_simp;refine HK.out _ _ ?_;clear HK K;refine Je (rs:=[7]) (by kernel_rfl) (by simp) ?_;refine IU rfl (λK hK=>?_) I7;have HK:Hid _:=hK;clear hK;go_simp;refine HK.out _ _ ?_;clear HK K;refine wpAny_done (by kernel_rfl) ?_ _;have xD:Hid (St g t w 43 aQ (p+4+((rs.take (k+1)).flatMap dv).length) #[O J id,AI aB,AI cut,O J code,I R,O J an,U ao l' c'] (w6.setCell ⟨w.heap.size+1,6,Y⟩ (U ao l' c'))):=mF.out.store 6 (U ao l' c');have NZ:Hid (Rc.Own (w.heap.size+2) (w6.setCell ⟨w.heap.size+1,6,Y⟩ (U ao l' c')) (U ao l' c') (rs.take (k+1))):=aY ny.out (by omega);have Cw:w.heap.size+2<=(w6.setCell ⟨w.heap.size+1,6,Y⟩ (U ao l' c')).heap.size:=by simpa using tX
     clear mF ny tX NY Fs;go_wp2_with fail;exact⟨⟨k+1,U ao l' c',by omega,by go_num,xD,NZ,Cw⟩,by simp[intOf];omega⟩
  .have fM:k=n:=by omega
   have hd:decide ((k:Int)<(n:Int))=false:=by simp;omega
   have ct:wr.cell? ⟨g,0,Y⟩=Z (I t):=HS.out.dE.c0;have ca:wr.cell? ⟨g,1,Y⟩=Z (O J t.size):=(show wr.cell? ⟨g,1,Y⟩=Z (O J t.size) by
    rw[<- ahm.out,<- fM];exact HS.out.dE.c1)
   have HOF:Hid (Rc.Own (w.heap.size+2) wr v rs):=(show Rc.Own _ _ _ _ by
    have h:=HO.out;rw[fM,Nx.out] at h;exact h)
   obtain⟨av,lv,cv,pW⟩:∃a l c,v=U a l c:=by
    rcases HO.out.2 with⟨hv,_⟩|⟨gq,cq,_,hv,_⟩
    .exact⟨_,_,_,hv⟩
    .exact⟨_,_,_,hv⟩
   subst pW;have m0:wr.cell? ⟨w.heap.size+1,0,Y⟩=Z (O J id):=HS.out.cell 0;have q0:wr.cell? ⟨w.heap.size,0,Y⟩=Z (O J 0):=HS.out.fK 0;have y0:=HS.out.fL 0;have m1:wr.cell? ⟨w.heap.size+1,1,Y⟩=Z (AI aB):=HS.out.cell 1;have q1:wr.cell? ⟨w.heap.size,1,Y⟩=Z (AI false):=HS.out.fK 1;have y1:=HS.out.fL 1;have m2:wr.cell? ⟨w.heap.size+1,2,Y⟩=Z (AI cut):=HS.out.cell 2;have q2:wr.cell? ⟨w.heap.size,2,Y⟩=Z (AI false):=HS.out.fK 2;have y2:=HS.out.fL 2;have m3:wr.cell? ⟨w.heap.size+1,3,Y⟩=Z (O J code):=HS.out.cell 3;have q3:wr.cell? ⟨w.heap.size,3,Y⟩=Z (O J 0):=HS.out.fK 3;have y3:=HS.out.fL 3;have m4:wr.cell? ⟨w.heap.size+1,4,Y⟩=Z (I R):=HS.out.cell 4;have q4:wr.cell? ⟨w.heap.size,4,Y⟩=Z (I ⟨#[]⟩):=HS.out.fK 4;have y4:=HS.out.fL 4;have m5:wr.cell? ⟨w.heap.size+1,5,Y⟩=Z (O J an):=HS.out.cell 5;have q5:wr.cell? ⟨w.heap.size,5,Y⟩=Z (O J 0):=HS.out.fK 5;have y5:=HS.out.fL 5;have m6:wr.cell? ⟨w.heap.size+1,6,Y⟩=Z (U av lv cv):=HS.out.cell 6;have q6:wr.cell? ⟨w.heap.size,6,Y⟩=Z (U Y 0 0):=HS.out.fK 6;have y6:=HS.out.fL 6;clear fM;go_wp2_with fail;go_region_held3 (λw'=>w'.cell? ⟨g,0,Y⟩=Z (I t)/\w'.cell? ⟨g,1,Y⟩=Z (O J t.size)) (go_keep) (first|(go_at_call 69;refine(cy _ _).mono ?_;rintro e w5 ⟨rfl,rfl⟩)|fail)
   go_wp2_with fail;refine Ix (v:=Im #[O J id,AI aB,AI cut,O J code,I R,O J an,U av lv cv]) ?_ rfl ⟨U av lv cv,rfl,?_,?_⟩
   .simp[results,Tryz.results52,go_sem,q0,q1,q2,q3,q4,q5,q6]
   .exact(Rd.trans (((((((HS.out.rd.put 0 _ (By _)).put 1 _ (By _)).put 2 _ (By _)).put 3 _ (By _)).put 4 _ (By _)).put 5 _ (By _)).put 6 _ (By _)) (Rd.ext (Iy _).drew):Rd g w _)
   .exact Ql (aY (i:=6) (aY (i:=5) (aY (i:=4) (aY (i:=3) (aY (i:=2) (aY (i:=1) (aY (i:=0) HOF.out (by omega)) (by omega)) (by omega)) (by omega)) (by omega)) (by omega)) (by omega))
end Go.Proofs.YtfidjlcdlakceaaGreatDoor
namespace Go.Proofs.YtfidjlcdlakceaaGreatDoor
open Go.RowKit Go.Lib
structure ue(t:ByteArray)(id code an:Int)(aB cut:Bool)(R:ByteArray)(rs:List Rc.Rec):Prop where
 go:∀(g:Nat) (w:World),dR g t 0 w->Calls be 52 #[If (Z ⟨g,0,Y⟩)] w λe w'=>∃v,e=sh (Im #[O J id,AI aB,AI cut,O J code,I R,O J an,v])/\Hid (Rd g w w')/\Hid (Rc.Own (w.heap.size+2) w' v rs)
theorem N0{r:Rc.Rec}(h:bL r=0):r.ok:=by
 obtain⟨h1,_,h3,h4⟩:=fA h;have:=(sW h1).2.2;have:=(sW h4).2.2;refine⟨?_,?_,?_⟩<;>(unfold Ij;omega)
theorem yL{rs:List Rc.Rec}(h:∀r∈rs,bL r=0):∀j,(rs.getD j Rc.dm).ok:=Rc.cB (λr hr=>N0 (h r hr))
theorem Hk(gs gm:Nat)(id code an:Int)(aB cut:Bool)(R t:ByteArray)(rs:List Rc.Rec)(w:World)(hr:ue t id code an aB cut R rs)(uf:w.heap[gs]?=Z (AT #[I t] 9 (0,0)))(kO:w.heap[gm]?=Z (AT aQ 43 (0,0)))(hc:bn id code an R rs=0) :
 Calls be 51 #[If (Z ⟨gs,0,Y⟩),If (Z ⟨gm,0,Y⟩)] w λr w'=>r=sh (Il #[])/\Hid (Rd gm w w')/\∃v,Hid (w'.heap[gm]?=Z (AT #[O J id,AI aB,AI cut,O J code,I R,O J an,v] 43 (0,0)))/\Hid (Rc.Own (w.heap.size+1) w' v rs):=by
 obtain⟨f1,f2,f3⟩:=cX hc;have Cs:=(sW f2).2.2;have HC:Hid (∀v W,Rc.Sl W v rs->Calls be 28 #[Im #[O J id,AI aB,AI cut,O J code,I R,O J an,v]] W λr w'=>r=sh (Il #[])/\Below W.heap.size W w'):=λv W hv=>by
  have h:=k7 id code an aB cut R rs v W (by unfold Ij;omega) hv;rw[hc,ot] at h;exact h
 have CN:Hid (∀j,(rs.getD j Rc.dm).ok):=yL f3;have HR:Hid (ue t id code an aB cut R rs):=hr;have cs:w.cell? ⟨gs,0,Y⟩=Z (I t):=af uf 0;clear hr uf f1 f2 f3 Cs hc;have aL:gm<w.heap.size:=(Ia.1 kO).1;have HGM:Hid (w.heap[gm]?=Z (AT aQ 43 (0,0))):=kO;clear kO;go_enter Tryz.func51,Tryz.ntmps51;go_wp2_with fail;have zQ:(w.alloc (AT #[I t,O J 0] 107)).heap[w.heap.size]?=Z (AT #[I t,O J 0] 107 (0,0)):=Ie w _;refine(HR.out.go w.heap.size _ ⟨af zQ 0,af zQ 1,frozenAt zQ 1,by simp⟩).mono ?_;rintro e w1 ⟨v,rfl,h2,ho⟩;have al:Below w.heap.size w w1:=((Ib _ _).alloc (By _) _).trans (h2.out.below (By _) (by simp));have jF:Hid (Rd gm w w1):=Rd.fJ al (By _);have j7:Hid (Rc.Own (w.heap.size+1) w1 v rs):=ho.out.mono (by simp<;>omega);obtain⟨av,lv,cv,pW⟩:∃a l c,v=U a l c:=by
  rcases j7.out.2 with⟨hv,_⟩|⟨gq,cq,_,hv,_⟩
  .exact⟨_,_,_,hv⟩
  .exact⟨_,_,_,hv⟩
 subst pW;have bb:w1.heap[gm]?=Z (AT aQ 43 (0,0)):=(al.block gm aL).trans HGM.out;have eY:gm<w1.heap.size:=(Ia.1 bb).1;have c0:w1.cell? ⟨gm,0,Y⟩=Z (O J 0):=af bb 0;have z0:w1.frozen? ⟨gm,0,Y⟩=false:=by simp[Ig,bb]
 have c1:w1.cell? ⟨gm,1,Y⟩=Z (AI false):=af bb 1;have z1:w1.frozen? ⟨gm,1,Y⟩=false:=by simp[Ig,bb]
 have c2:w1.cell? ⟨gm,2,Y⟩=Z (AI false):=af bb 2;have z2:w1.frozen? ⟨gm,2,Y⟩=false:=by simp[Ig,bb]
 have c3:w1.cell? ⟨gm,3,Y⟩=Z (O J 0):=af bb 3;have z3:w1.frozen? ⟨gm,3,Y⟩=false:=by simp[Ig,bb]
 have c4:w1.cell? ⟨gm,4,Y⟩=Z (I ⟨#[]⟩):=af bb 4;have z4:w1.frozen? ⟨gm,4,Y⟩=false:=by simp[Ig,bb]
 have c5:w1.cell? ⟨gm,5,Y⟩=Z (O J 0):=af bb 5;have z5:w1.frozen? ⟨gm,5,Y⟩=false:=by simp[Ig,bb]
 have c6:w1.cell? ⟨gm,6,Y⟩=Z (U Y 0 0):=af bb 6;have z6:w1.frozen? ⟨gm,6,Y⟩=false:=by simp[Ig,bb]
 have oq:Hid ((((((((w1.setCell ⟨gm,0,Y⟩ (O J id)).setCell ⟨gm,1,Y⟩ (AI aB)).setCell ⟨gm,2,Y⟩ (AI cut)).setCell ⟨gm,3,Y⟩ (O J code)).setCell ⟨gm,4,Y⟩ (I R)).setCell ⟨gm,5,Y⟩ (O J an)).setCell ⟨gm,6,Y⟩ (U av lv cv)).heap[gm]?=Z (AT #[O J id,AI aB,AI cut,O J code,I R,O J an,U av lv cv] 43 (0,0))):=(Is (i:=6) (Is (i:=5) (Is (i:=4) (Is (i:=3) (Is (i:=2) (Is (i:=1) (Is (i:=0) bb (O J id)) (AI aB)) (AI cut)) (O J code)) (I R)) (O J an)) (U av lv cv));have lQ:Hid (Rd gm w (((((((w1.setCell ⟨gm,0,Y⟩ (O J id)).setCell ⟨gm,1,Y⟩ (AI aB)).setCell ⟨gm,2,Y⟩ (AI cut)).setCell ⟨gm,3,Y⟩ (O J code)).setCell ⟨gm,4,Y⟩ (I R)).setCell ⟨gm,5,Y⟩ (O J an)).setCell ⟨gm,6,Y⟩ (U av lv cv))):=((((((((jF.out).here 0 _).here 1 _).here 2 _).here 3 _).here 4 _).here 5 _).here 6 _);have gv:Hid (Rc.Own (w.heap.size+1) (((((((w1.setCell ⟨gm,0,Y⟩ (O J id)).setCell ⟨gm,1,Y⟩ (AI aB)).setCell ⟨gm,2,Y⟩ (AI cut)).setCell ⟨gm,3,Y⟩ (O J code)).setCell ⟨gm,4,Y⟩ (I R)).setCell ⟨gm,5,Y⟩ (O J an)).setCell ⟨gm,6,Y⟩ (U av lv cv)) (U av lv cv) rs):=(aY (i:=6) (aY (i:=5) (aY (i:=4) (aY (i:=3) (aY (i:=2) (aY (i:=1) (aY (i:=0) j7.out (by omega)) (by omega)) (by omega)) (by omega)) (by omega)) (by omega)) (by omega));clear h2 ho al zQ bb jF;go_wp2_with fail;refine(HC.out _ _ (gv.out.sl CN.out)).mono ?_;rintro e w2 ⟨rfl,aC⟩;have bw:Hid (Below (((((((w1.setCell ⟨gm,0,Y⟩ (O J id)).setCell ⟨gm,1,Y⟩ (AI aB)).setCell ⟨gm,2,Y⟩ (AI cut)).setCell ⟨gm,3,Y⟩ (O J code)).setCell ⟨gm,4,Y⟩ (I R)).setCell ⟨gm,5,Y⟩ (O J an)).setCell ⟨gm,6,Y⟩ (U av lv cv)).heap.size (((((((w1.setCell ⟨gm,0,Y⟩ (O J id)).setCell ⟨gm,1,Y⟩ (AI aB)).setCell ⟨gm,2,Y⟩ (AI cut)).setCell ⟨gm,3,Y⟩ (O J code)).setCell ⟨gm,4,Y⟩ (I R)).setCell ⟨gm,5,Y⟩ (O J an)).setCell ⟨gm,6,Y⟩ (U av lv cv)) w2):=aC;clear aC;go_wp2_with fail;simp[Jk,results,Tryz.results51];refine⟨lQ.out.trans (Rd.fJ bw.out (By _)),U av lv cv,?_,?_⟩
 .exact(bw.out.block gm (by simp;exact eY)).trans oq.out
 .exact gv.out.below bw.out
theorem AU(id code an:Int)(aB cut:Bool)(R t:ByteArray)(rs:List Rc.Rec)(w:World)(hr:ue t id code an aB cut R rs)(hl:t.size<=512)(hc:bn id code an R rs=0) :
 Calls be 19 #[I t] w λe w'=>∃v,e=sh (Il #[Im #[O J id,AI aB,AI cut,O J code,I R,O J an,v],O J 0])/\Below w.heap.size w w'/\Hid (Rc.Own w.heap.size w' v rs):=by
 have rC:Hid (∀(gs gm:Nat) (W:World),W.heap[gs]?=Z (AT #[I t] 9 (0,0))->W.heap[gm]?=Z (AT aQ 43 (0,0))->Calls be 51 #[If (Z ⟨gs,0,Y⟩),If (Z ⟨gm,0,Y⟩)] W λr w'=>r=sh (Il #[])/\Hid (Rd gm W w')/\∃v,Hid (w'.heap[gm]?=Z (AT #[O J id,AI aB,AI cut,O J code,I R,O J an,v] 43 (0,0)))/\Hid (Rc.Own (W.heap.size+1) w' v rs)):=λgs gm W uf kO=>Hk gs gm id code an aB cut R t rs W hr uf kO hc;have ef:∀args W,(callFunc 51 args).run be W=.ok (.enter 51 args) W:=enters_of Tryz.func51 (by kernel_rfl) rfl;have G6:decide (512<(t.size:Int))=false:=by simp;omega
 clear hl hr hc;go_enter Tryz.func19,Tryz.ntmps19;go_wp2_with fail;obtain⟨w0,dJ⟩:∃w0,w0=((w.alloc (AT #[I t] 9)).alloc (AT aQ 43)).alloc (AT aQ 43):=⟨_,rfl⟩;rw[<- dJ];have X6:w0.heap.size=w.heap.size+1+1+1:=by rw[dJ];simp
 have dy:Hid (Below w.heap.size w w0):=(show Below _ _ _ by rw[dJ];exact(((Ib _ _).alloc (By _) _).alloc (by simp) _).alloc (by simp;omega) _);have uf:w0.heap[w.heap.size]?=Z (AT #[I t] 9 (0,0)):=by
  rw[dJ];exact(I9 _ _ _ (by simp;omega)).trans ((I9 _ _ _ (by simp)).trans (Ie w _))
 have Cv:w0.heap[w.heap.size+1]?=Z (AT aQ 43 (0,0)):=by
  rw[dJ];have h:=Ie (w.alloc (AT #[I t] 9)) (AT aQ 43);exact(I9 _ _ _ (by simp)).trans (by simpa using h)
 have kO:w0.heap[w.heap.size+1+1]?=Z (AT aQ 43 (0,0)):=by
  rw[dJ];have h:=Ie ((w.alloc (AT #[I t] 9)).alloc (AT aQ 43)) (AT aQ 43);simpa using h
 clear dJ;have j6:(w0.alloc (AT #[O J 0] 34)).heap[w0.heap.size]?=Z (AT #[O J 0] 34 (0,0)):=Ie w0 _;have fw:Hid (Calls be 26 #[.func (.func 51) #[] #[If (Z ⟨w.heap.size,0,Y⟩),If (Z ⟨w.heap.size+1+1,0,Y⟩)]] w0 λr w'=>r=sh (O J 0)/\Hid (Rd (w.heap.size+1+1) w0 w')/\∃v,Hid (w'.heap[w.heap.size+1+1]?=Z (AT #[O J id,AI aB,AI cut,O J code,I R,O J an,v] 43 (0,0)))/\Hid (Rc.Own (w.heap.size+1+1+1) w' v rs)):=(show Calls _ _ _ _ _ by
  refine(kV 51 #[If (Z ⟨w.heap.size,0,Y⟩),If (Z ⟨w.heap.size+1+1,0,Y⟩)] w0 (λW=>Rd (w.heap.size+1+1) (w0.alloc (AT #[O J 0] 34)) W/\∃v,W.heap[w.heap.size+1+1]?=Z (AT #[O J id,AI aB,AI cut,O J code,I R,O J an,v] 43 (0,0))/\Rc.Own (w0.heap.size+1+1) W v rs) ef ?_).mono ?_
  .refine(rC.out w.heap.size (w.heap.size+1+1) _ ((I9 w0 _ _ (by omega)).trans uf) ((I9 w0 _ _ (by omega)).trans kO)).mono ?_
   rintro r w' ⟨rfl,hb,v,sg,ho⟩;have hk:w'.heap[w0.heap.size]?=Z (AT #[O J 0] 34 (0,0)):=(hb.out.block _ (by simp) (by omega)).trans j6;exact⟨rfl,⟨hb.out,v,sg.out,by have:=ho.out;simpa using this⟩,af hk 0,frozenAt hk 0,(Ia.1 hk).1⟩
  .rintro r w' ⟨rfl,w1,⟨hR,v,hk,ho⟩,_,rfl⟩
   refine⟨rfl,(Rd.trans (Rd.ext ((Iy w0).alloc _)) hR).put 0 _ (By _),v,?_,?_⟩
   .exact(IB w1 _ _ _ (by simp;omega)).trans hk
   .exact(aY ho (by omega)).mono (by omega))
 clear j6 uf kO rC ef;refine fw.out.mono ?_;rintro e w1 ⟨rfl,jF,v,jo,j7⟩;obtain⟨av,lv,cv,pW⟩:∃a l c,v=U a l c:=by
  rcases j7.out.2 with⟨hv,_⟩|⟨gq,cq,_,hv,_⟩
  .exact⟨_,_,_,hv⟩
  .exact⟨_,_,_,hv⟩
 subst pW;have aR:Hid (Below w.heap.size w w1):=dy.out.trans (jF.out.below (by omega) (by omega));have iw:w1.heap[w.heap.size+1]?=Z (AT aQ 43 (0,0)):=(jF.out.block _ (by omega) (by omega)).trans Cv;have c0:w1.cell? ⟨w.heap.size+1+1,0,Y⟩=Z (O J id):=af jo.out 0;have q0:w1.cell? ⟨w.heap.size+1,0,Y⟩=Z (O J 0):=af iw 0;have y0:w1.frozen? ⟨w.heap.size+1,0,Y⟩=false:=frozenAt iw 0;have c1:w1.cell? ⟨w.heap.size+1+1,1,Y⟩=Z (AI aB):=af jo.out 1;have q1:w1.cell? ⟨w.heap.size+1,1,Y⟩=Z (AI false):=af iw 1;have y1:w1.frozen? ⟨w.heap.size+1,1,Y⟩=false:=frozenAt iw 1;have c2:w1.cell? ⟨w.heap.size+1+1,2,Y⟩=Z (AI cut):=af jo.out 2;have q2:w1.cell? ⟨w.heap.size+1,2,Y⟩=Z (AI false):=af iw 2;have y2:w1.frozen? ⟨w.heap.size+1,2,Y⟩=false:=frozenAt iw 2;have c3:w1.cell? ⟨w.heap.size+1+1,3,Y⟩=Z (O J code):=af jo.out 3;have q3:w1.cell? ⟨w.heap.size+1,3,Y⟩=Z (O J 0):=af iw 3;have y3:w1.frozen? ⟨w.heap.size+1,3,Y⟩=false:=frozenAt iw 3;have c4:w1.cell? ⟨w.heap.size+1+1,4,Y⟩=Z (I R):=af jo.out 4;have q4:w1.cell? ⟨w.heap.size+1,4,Y⟩=Z (I ⟨#[]⟩):=af iw 4;have y4:w1.frozen? ⟨w.heap.size+1,4,Y⟩=false:=frozenAt iw 4;have c5:w1.cell? ⟨w.heap.size+1+1,5,Y⟩=Z (O J an):=af jo.out 5;have q5:w1.cell? ⟨w.heap.size+1,5,Y⟩=Z (O J 0):=af iw 5;have y5:w1.frozen? ⟨w.heap.size+1,5,Y⟩=false:=frozenAt iw 5;have c6:w1.cell? ⟨w.heap.size+1+1,6,Y⟩=Z (U av lv cv):=af jo.out 6;have q6:w1.cell? ⟨w.heap.size+1,6,Y⟩=Z (U Y 0 0):=af iw 6;have y6:w1.frozen? ⟨w.heap.size+1,6,Y⟩=false:=frozenAt iw 6;clear fw dy jF jo iw Cv;go_wp2_with fail;refine Ix (v:=Il #[Im #[O J id,AI aB,AI cut,O J code,I R,O J an,U av lv cv],O J 0]) ?_ rfl ⟨U av lv cv,rfl,?_,?_⟩
 .simp[results,Tryz.results19,go_sem,q0,q1,q2,q3,q4,q5,q6]
 .exact(((((((aR.out.setCell (p:=⟨w.heap.size+1,0,Y⟩) (by simp) _).setCell (p:=⟨w.heap.size+1,1,Y⟩) (by simp) _).setCell (p:=⟨w.heap.size+1,2,Y⟩) (by simp) _).setCell (p:=⟨w.heap.size+1,3,Y⟩) (by simp) _).setCell (p:=⟨w.heap.size+1,4,Y⟩) (by simp) _).setCell (p:=⟨w.heap.size+1,5,Y⟩) (by simp) _).setCell (p:=⟨w.heap.size+1,6,Y⟩) (by simp) _)
 .exact Rc.Own.mono (aY (i:=6) (aY (i:=5) (aY (i:=4) (aY (i:=3) (aY (i:=2) (aY (i:=1) (aY (i:=0) j7.out (by omega)) (by omega)) (by omega)) (by omega)) (by omega)) (by omega)) (by omega)) (by omega)
theorem wL{id code an:Int}{aB cut:Bool}{R:ByteArray}{rs:List Rc.Rec}(hc:bn id code an R rs=0)(hl:(cL id code an aB cut R rs).length<=512):ue ⟨(cL id code an aB cut R rs).toArray⟩ id code an aB cut R rs:=⟨λg w h=>by
 obtain⟨⟨e1,e2⟩,⟨e3,e4⟩,e5,e6⟩:=ND hc;refine NW g id code an aB cut R rs _ w h ?_ hc (by simp) ⟨⟨e1,by omega⟩,⟨e3,by omega⟩,e5,by omega⟩
 have:(⟨(cL id code an aB cut R rs).toArray⟩:ByteArray).size=(cL id code an aB cut R rs).length:=by simp[JJ]
 omega⟩
end Go.Proofs.YtfidjlcdlakceaaGreatDoor
