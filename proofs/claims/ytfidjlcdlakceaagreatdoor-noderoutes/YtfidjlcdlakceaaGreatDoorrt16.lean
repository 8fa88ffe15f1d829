import Derived.Test.YtfidjlcdlakceaaGreatDoorrt15
set_option maxHeartbeats 1600000
set_option maxRecDepth 100000
open Nat renaming le_trans→Ir,lt_of_lt_of_le→Iu,le_refl→By
open Option renaming none→Y,some→Z
open Go.RowKit.Below renaming heap_setCell→IH,refl→Ia
open Array renaming getElem?_eq_some_iff→Ib
open Go.World renaming frozen?→Ih,cell?_setCell_other→JC,cell?_of_block→Oi
open Go.Value renaming pointer→Ig,int→O,tuple→Il,string→I,slice→U,bool→AT
open Go.IntKind renaming i64→J,wrap_i64→IN
open Go.Ending renaming returned→sh
open Go.Proofs.Tryz renaming prog→be,underlying9→Iv,underlying127→JK,underlying5→Jm,underlying111→Jn
open Go renaming wp_region_held_drew→QZ,wpAnyH_take→IV,maxLen→Ii,heap_alloc_new→Ie,TypeId→I8
open Or renaming inl→JH
open List renaming getD_eq_getElem?_getD→Qk,getElem?_eq_getElem→Ic,length_append→Ij,length_singleton→JB
open Go.Lib renaming bytesWorld→Ob
open Go.Obj renaming cells→AI
open Go.World.Extends renaming refl→IB
namespace Go.Proofs.YtfidjlcdlakceaaGreatDoor
open Go.RowKit
structure Rd(g:Nat)(w w':World):Prop where
 os:w'.os=w.os
 tape:w'.tape=w.tape
 output:w'.output=w.output
 size:w.heap.size<=w'.heap.size
 block:∀k:Nat,k<w.heap.size->k≠g->w'.heap[k]?=w.heap[k]?
theorem Rd.trans{g:Nat}{w w1 w2:World}(h:Rd g w w1)(h2:Rd g w1 w2):Rd g w w2:=
 ⟨h2.os.trans h.os,h2.tape.trans h.tape,h2.output.trans h.output,Ir h.size h2.size,λk hk hg=>(h2.block k (Iu hk h.size) hg).trans (h.block k hk hg)⟩
theorem Rd.ext{g:Nat}{w w':World}(h:w.Extends w'):Rd g w w':=⟨h.os,h.tape,h.output,h.size,λk hk _=>h.block k hk⟩
theorem Rd.Cu{g:Nat}{v:Value}{w w':World}(h:(w.setCell ⟨g,1,Y⟩ v).Extends w'):Rd g w w':=
 ⟨h.os,h.tape,h.output,by have:=h.size;simpa using this,λk hk hg=>(h.block k (by simpa using hk)).trans (IH w _ _ k hg)⟩
theorem Rd.below{g B:Nat}{w w':World}(h:Rd g w w')(hb:B<=g)(hB:B<=w.heap.size):Below B w w':=
 ⟨h.os,h.tape,h.output,h.size,λk hk=>h.block k (by omega) (by omega)⟩
theorem Rd.ff{g B:Nat}{w w':World}(h:Below B w w')(hb:w.heap.size<=B):Rd g w w':=
 ⟨h.os,h.tape,h.output,h.size,λk hk _=>h.block k (by omega)⟩
theorem Rd.own{g base:Nat}{w w':World}{v:Value}{l:List ByteArray}(h:Rd g w w')(ho:df base w v l)(hg:g<base):df base w' v l:=by
 rcases ho.2 with⟨rfl,h0⟩|⟨k,c,cur,rfl,dN,hk,fa,dO,cJ,aV⟩
 .exact⟨ho.1,.inl ⟨rfl,h0⟩⟩
 .have aB:k<w.heap.size:=(Ib.1 hk).1
  exact⟨ho.1,.inr ⟨k,c,cur,rfl,dN,(h.block k aB (by omega)).trans hk,fa,dO,cJ,aV⟩⟩
theorem dA.ext{g a:Nat}{t:ByteArray}{w w':World}(h:dA g t a w)(hx:w.Extends w'):dA g t a w' where
 c0:=hx.cell_of h.c0
 c1:=hx.cell_of h.c1
 hz:=by rw[hx.frozen _ h.hg];exact h.hz
 hg:=Iu h.hg hx.size
theorem dA.below{g a B:Nat}{t:ByteArray}{w w':World}(h:dA g t a w)(hx:Below B w w')(hB:g<B):dA g t a w' where
 c0:=by have:=h.c0;simp only[World.cell?,hx.block g hB] at this ⊢;exact this
 c1:=by have:=h.c1;simp only[World.cell?,hx.block g hB] at this ⊢;exact this
 hz:=by have:=h.hz;simp only[Ih,hx.block g hB] at this ⊢;exact this
 hg:=Iu h.hg hx.size
theorem XT{t:ByteArray}{a:Nat}(h:a<t.size):au t a 1=t[a].toNat:=by
 have h2:t.data[a]?=Z t[a]:=by
  have:a<t.data.size:=h
  rw[Array.getElem?_eq_getElem this];rfl
 simp[au,h2]
theorem cY(g a n:Nat)(t:ByteArray)(w:World)(h:dA g t a w)(hs:t.size<=1000)(kN:a+n<=t.size)(hn:n<=4) :
 Calls be 99 #[Ig (Z ⟨g,0,Y⟩),O J n] w λe w'=>e=sh (O J (au t a n))/\Hid (dA g t (a+n) w')/\Hid (Rd g w w'):=by
 refine(nh g a n t w h.c0 h.c1 h.hz hs kN hn).mono ?_;rintro e w' ⟨rfl,hx⟩;rw[<- Int.natCast_add] at hx;exact⟨rfl,h.move hx,Rd.Cu hx⟩
theorem ev(g a n x:Nat)(t:ByteArray)(w:World)(h:dA g t a w)(hs:t.size<=1000)(kN:a+n<=t.size)(hn:n<=4)(hx:au t a n=x) :
 Calls be 101 #[Ig (Z ⟨g,0,Y⟩),O J n,O J x] w λe w'=>e=sh (Il #[])/\Hid (dA g t (a+n) w')/\Hid (Rd g w w'):=by
 subst hx;refine(Em g a n t w h hs kN hn).mono ?_;rintro e w' ⟨rfl,hx⟩;exact⟨rfl,h.move hx,Rd.Cu hx⟩
theorem o8(g a k:Nat)(t l:ByteArray)(w:World)(h:dA g t a w)(hs:t.size<=1000)(hk:au t a 1=k)(kN:a+1+k<=t.size)(hl:t.extract (a+1) (a+1+k)=l) :
 Calls be 155 #[Ig (Z ⟨g,0,Y⟩)] w λe w'=>e=sh (I l)/\Hid (dA g t (a+1+k) w')/\Hid (Rd g w w'):=by
 subst hk;subst hl;refine(AA g a t w h hs kN).mono ?_;rintro e w' ⟨rfl,w1,hx,hy⟩;exact⟨rfl,(h.move hx).move hy,(Rd.Cu hx).trans (Rd.Cu hy)⟩
theorem AM(g a:Nat)(t:ByteArray)(w:World)(h:dA g t a w)(ha:a<t.size) :
 Calls be 153 #[Ig (Z ⟨g,0,Y⟩)] w λe w'=>e=sh (O .u8 (au t a 1:Nat))/\Hid (dA g t a w')/\Hid (Rd g w w'):=by
 refine(NH g a t w h.c0 h.c1 ha).mono ?_;rintro e w' ⟨rfl,m,rfl⟩;rw[XT ha];have hx:w.Extends (w.drew.drewN m):=⟨rfl,rfl,rfl,By _,λ_ _=>rfl,λ_ _=>rfl,λ_ _=>rfl⟩;exact⟨rfl,h.ext hx,Rd.ext hx⟩
theorem Cv(g a n:Nat)(t:ByteArray)(w:World)(c0:w.cell? ⟨g,0,Y⟩=Z (I t))(c1:w.cell? ⟨g,1,Y⟩=Z (O J a))(hs:t.size<=1000)(ha:a<=t.size)(kN:¬ a+n<=t.size) :
 Calls be 152 #[Ig (Z ⟨g,0,Y⟩),O J n] w λe w'=>e=dC 1/\∃m,w'=w.drewN m:=by
 have h1:IntKind.i64.wrap ((t.size:Int)-(a:Int))=(t.size:Int)-(a:Int):=by rw[IN];omega
 have h2:decide ((n:Int)<=(t.size:Int)-(a:Int))=false:=by simp;omega
 go_enter Tryz.func152,Tryz.ntmps152;go_wp2_with fail;refine QZ (S:=λW=>W.cell? ⟨g,0,Y⟩=Z (I t)/\W.cell? ⟨g,1,Y⟩=Z (O J a)) (by kernel_rfl) ⟨c0,c1⟩ (λqb=>?_);refine IV (i:=0) (v:=?v0) rfl (by kernel_rfl) (by kernel_rfl) (by kernel_rfl) (λ_ _ _ h=>h) (JH ⟨by rfl,?hy0⟩) (by assumption) ?_
 case hy0=>(intro W ei;obtain⟨d0,d1⟩:=ei;go_simp;try with_reducible rfl)
 refine IV (i:=1) (v:=?v1) rfl (by kernel_rfl) (by kernel_rfl) (by kernel_rfl) (λ_ _ _ h=>h) (JH ⟨by rfl,?hy1⟩) (by assumption) ?_
 case hy1=>(intro W ei;obtain⟨d0,d1⟩:=ei;go_simp;try with_reducible rfl)
 refine IV (i:=2) (v:=?v2) rfl (by kernel_rfl) (by kernel_rfl) (by kernel_rfl) (λ_ _ _ h=>h) (JH ⟨by rfl,?hy2⟩) (by assumption) ?_
 case hy2=>(intro W ei;obtain⟨d0,d1⟩:=ei;go_simp;try with_reducible rfl)
 refine IV (i:=3) (v:=?v3) rfl (by kernel_rfl) (by kernel_rfl) (by kernel_rfl) (λ_ _ _ h=>h) (JH ⟨by rfl,?hy3⟩) (by assumption) ?_
 case hy3=>(intro W ei;obtain⟨d0,d1⟩:=ei;go_simp;try with_reducible rfl)
 refine IV (i:=4) (v:=?v4) rfl (by kernel_rfl) (by kernel_rfl) (by kernel_rfl) (λ_ _ _ h=>h) (JH ⟨by rfl,?hy4⟩) (by assumption) ?_
 case hy4=>(intro W ei;obtain⟨d0,d1⟩:=ei;go_simp;try with_reducible rfl)
 refine IV (i:=5) (v:=?v5) rfl (by kernel_rfl) (by kernel_rfl) (by kernel_rfl) (λ_ _ _ h=>h) (JH ⟨by rfl,?hy5⟩) (by assumption) ?_
 case hy5=>(intro W ei;obtain⟨d0,d1⟩:=ei;go_simp;try with_reducible rfl)
 refine IV (i:=6) (v:=?v6) rfl (by kernel_rfl) (by kernel_rfl) (by kernel_rfl) (λ_ _ _ h=>h) (JH ⟨by rfl,?hy6⟩) (by assumption) ?_
 case hy6=>(intro W ei;obtain⟨d0,d1⟩:=ei;go_simp;try with_reducible rfl)
 refine IV (i:=7) (v:=?v7) rfl (by kernel_rfl) (by kernel_rfl) (by kernel_rfl) (λ_ _ _ h=>h) (JH ⟨by rfl,?hy7⟩) (by assumption) ?_
 case hy7=>(intro W ei;obtain⟨d0,d1⟩:=ei;go_simp;try with_reducible rfl)
 refine IV (i:=8) (v:=?v8) rfl (by kernel_rfl) (by kernel_rfl) (by kernel_rfl) (λ_ _ _ h=>h) (JH ⟨by rfl,?hy8⟩) (by assumption) ?_
 case hy8=>(intro W ei;obtain⟨d0,d1⟩:=ei;go_simp;try with_reducible rfl)
 refine IV (i:=9) (v:=?v9) rfl (by kernel_rfl) (by kernel_rfl) (by kernel_rfl) (λ_ _ _ h=>h) (JH ⟨by rfl,?hy9⟩) (by assumption) ?_
 case hy9=>(intro W ei;obtain⟨d0,d1⟩:=ei;go_simp;try with_reducible rfl)
 refine IV (i:=10) (v:=?v10) rfl (by kernel_rfl) (by kernel_rfl) (by kernel_rfl) (λ_ _ _ h=>h) (JH ⟨by rfl,?hy10⟩) (by assumption) ?_
 case hy10=>(intro W ei;obtain⟨d0,d1⟩:=ei;go_simp;try with_reducible rfl)
 refine IV (i:=11) (v:=?v11) rfl (by kernel_rfl) (by kernel_rfl) (by kernel_rfl) (λ_ _ _ h=>h) (JH ⟨by rfl,?hy11⟩) (by assumption) ?_
 case hy11=>(intro W ei;obtain⟨d0,d1⟩:=ei;go_simp;try with_reducible rfl)
 refine wpAnyH_ready (rs:=[12]) (by kernel_rfl) (by simp) ?_;refine AllReadyH.cons rfl (λK hK=>?_) AllReadyH.nil;go_simp;refine(cQ _ _).mono ?_;rintro e w5 ⟨rfl,rfl⟩;exact⟨rfl,rfl,1,rfl⟩
theorem NU(g a:Nat)(t:ByteArray)(w:World)(c0:w.cell? ⟨g,0,Y⟩=Z (I t))(c1:w.cell? ⟨g,1,Y⟩=Z (O J a))(ha:¬ a<t.size) :
 Calls be 153 #[Ig (Z ⟨g,0,Y⟩)] w λe w'=>e=dC 1/\∃m,w'=w.drewN m:=by
 have h2:decide ((a:Int)<(t.size:Int))=false:=by simp;omega
 go_enter Tryz.func153,Tryz.ntmps153;go_wp2_with fail;refine QZ (S:=λW=>W.cell? ⟨g,0,Y⟩=Z (I t)/\W.cell? ⟨g,1,Y⟩=Z (O J a)) (by kernel_rfl) ⟨c0,c1⟩ (λqb=>?_);refine IV (i:=0) (v:=?v0) rfl (by kernel_rfl) (by kernel_rfl) (by kernel_rfl) (λ_ _ _ h=>h) (JH ⟨by rfl,?hy0⟩) (by assumption) ?_
 case hy0=>(intro W ei;obtain⟨d0,d1⟩:=ei;go_simp;try with_reducible rfl)
 refine IV (i:=1) (v:=?v1) rfl (by kernel_rfl) (by kernel_rfl) (by kernel_rfl) (λ_ _ _ h=>h) (JH ⟨by rfl,?hy1⟩) (by assumption) ?_
 case hy1=>(intro W ei;obtain⟨d0,d1⟩:=ei;go_simp;try with_reducible rfl)
 refine IV (i:=2) (v:=?v2) rfl (by kernel_rfl) (by kernel_rfl) (by kernel_rfl) (λ_ _ _ h=>h) (JH ⟨by rfl,?hy2⟩) (by assumption) ?_
 case hy2=>(intro W ei;obtain⟨d0,d1⟩:=ei;go_simp;try with_reducible rfl)
 refine IV (i:=3) (v:=?v3) rfl (by kernel_rfl) (by kernel_rfl) (by kernel_rfl) (λ_ _ _ h=>h) (JH ⟨by rfl,?hy3⟩) (by assumption) ?_
 case hy3=>(intro W ei;obtain⟨d0,d1⟩:=ei;go_simp;try with_reducible rfl)
 refine IV (i:=4) (v:=?v4) rfl (by kernel_rfl) (by kernel_rfl) (by kernel_rfl) (λ_ _ _ h=>h) (JH ⟨by rfl,?hy4⟩) (by assumption) ?_
 case hy4=>(intro W ei;obtain⟨d0,d1⟩:=ei;go_simp;try with_reducible rfl)
 refine IV (i:=5) (v:=?v5) rfl (by kernel_rfl) (by kernel_rfl) (by kernel_rfl) (λ_ _ _ h=>h) (JH ⟨by rfl,?hy5⟩) (by assumption) ?_
 case hy5=>(intro W ei;obtain⟨d0,d1⟩:=ei;go_simp;try with_reducible rfl)
 refine IV (i:=6) (v:=?v6) rfl (by kernel_rfl) (by kernel_rfl) (by kernel_rfl) (λ_ _ _ h=>h) (JH ⟨by rfl,?hy6⟩) (by assumption) ?_
 case hy6=>(intro W ei;obtain⟨d0,d1⟩:=ei;go_simp;try with_reducible rfl)
 refine IV (i:=7) (v:=?v7) rfl (by kernel_rfl) (by kernel_rfl) (by kernel_rfl) (λ_ _ _ h=>h) (JH ⟨by rfl,?hy7⟩) (by assumption) ?_
 case hy7=>(intro W ei;obtain⟨d0,d1⟩:=ei;go_simp;try with_reducible rfl)
 refine IV (i:=8) (v:=?v8) rfl (by kernel_rfl) (by kernel_rfl) (by kernel_rfl) (λ_ _ _ h=>h) (JH ⟨by rfl,?hy8⟩) (by assumption) ?_
 case hy8=>(intro W ei;obtain⟨d0,d1⟩:=ei;go_simp;try with_reducible rfl)
 refine IV (i:=9) (v:=?v9) rfl (by kernel_rfl) (by kernel_rfl) (by kernel_rfl) (λ_ _ _ h=>h) (JH ⟨by rfl,?hy9⟩) (by assumption) ?_
 case hy9=>(intro W ei;obtain⟨d0,d1⟩:=ei;go_simp;try with_reducible rfl)
 refine wpAnyH_ready (rs:=[10]) (by kernel_rfl) (by simp) ?_;refine AllReadyH.cons rfl (λK hK=>?_) AllReadyH.nil;go_simp;refine(cQ _ _).mono ?_;rintro e w5 ⟨rfl,rfl⟩;exact⟨rfl,rfl,1,rfl⟩
theorem nU(g:Nat)(w:World)(m:Nat):Rd g w (w.drewN m):=Rd.ext ⟨rfl,rfl,rfl,By _,λ_ _=>rfl,λ_ _=>rfl,λ_ _=>rfl⟩
theorem Ev(g a n:Nat)(t:ByteArray)(w:World)(h:dA g t a w)(hs:t.size<=1000)(ha:a<=t.size)(kN:¬ a+n<=t.size) :
 Calls be 99 #[Ig (Z ⟨g,0,Y⟩),O J n] w λe w'=>e=dC 1/\Hid (Rd g w w'):=by
 have HT:Hid (Calls be 152 #[Ig (Z ⟨g,0,Y⟩),O J n] w λe w'=>e=dC 1/\∃m,w'=w.drewN m):=Cv g a n t w h.c0 h.c1 hs ha kN;clear h;go_enter Tryz.func99,Tryz.ntmps99;go_wp2_with fail;refine HT.out.mono ?_;rintro e w1 ⟨rfl,m,rfl⟩;exact⟨rfl,rfl,nU g w m⟩
theorem dR(g a n:Nat)(t:ByteArray)(w:World)(h:dA g t a w)(hs:t.size<=1000)(ha:a<=t.size)(hn:n<=4) :
 Calls be 99 #[Ig (Z ⟨g,0,Y⟩),O J n] w λe w'=>Hid (Rd g w w')/\((a+n<=t.size/\e=sh (O J (au t a n))/\Hid (dA g t (a+n) w'))\/(¬ a+n<=t.size/\e=dC 1)):=by
 by_cases kN:a+n<=t.size
 .refine(cY g a n t w h hs kN hn).mono ?_
  rintro e w' ⟨rfl,h1,h2⟩;exact⟨h2,.inl ⟨kN,rfl,h1⟩⟩
 .refine(Ev g a n t w h hs ha kN).mono ?_
  rintro e w' ⟨rfl,h2⟩;exact⟨h2,.inr ⟨kN,rfl⟩⟩
theorem T0(g a:Nat)(t:ByteArray)(w:World)(h:dA g t a w) :
 Calls be 153 #[Ig (Z ⟨g,0,Y⟩)] w λe w'=>Hid (Rd g w w')/\((a<t.size/\e=sh (O .u8 (au t a 1:Nat))/\Hid (dA g t a w'))\/(¬ a<t.size/\e=dC 1)):=by
 by_cases kN:a<t.size
 .refine(AM g a t w h kN).mono ?_
  rintro e w' ⟨rfl,h1,h2⟩;exact⟨h2,.inl ⟨kN,rfl,h1⟩⟩
 .refine(NU g a t w h.c0 h.c1 kN).mono ?_
  rintro e w' ⟨rfl,m,rfl⟩;exact⟨nU g w m,.inr ⟨kN,rfl⟩⟩
theorem gM(g a n:Nat)(x:Int)(t:ByteArray)(w:World)(h:dA g t a w)(hs:t.size<=1000)(ha:a<=t.size)(hn:n<=4) :
 Calls be 101 #[Ig (Z ⟨g,0,Y⟩),O J n,O J x] w λe w'=>Hid (Rd g w w')/\(((a+n<=t.size/\(au t a n:Int)=x)/\e=sh (Il #[])/\Hid (dA g t (a+n) w'))\/(¬ (a+n<=t.size/\(au t a n:Int)=x)/\e=dC 1)):=by
 have HT:Hid (Calls be 99 #[Ig (Z ⟨g,0,Y⟩),O J n] w λe w'=>Hid (Rd g w w')/\((a+n<=t.size/\e=sh (O J (au t a n))/\Hid (dA g t (a+n) w'))\/(¬ a+n<=t.size/\e=dC 1))):=dR g a n t w h hs ha hn;clear h;go_enter Tryz.func101,Tryz.ntmps101;go_wp2_with fail;refine HT.out.mono ?_;rintro e w1 ⟨HD,⟨kN,rfl,HI⟩|⟨kN,rfl⟩⟩
 .by_cases hx:(au t a n:Int)=x
  .have hb:((au t a n:Int)==x)=true:=by simpa using hx
   have HX:Hid ((au t a n:Int)=x):=hx;clear hx;go_wp2_with fail;refine(bZ _ _).mono ?_;rintro e w5 ⟨rfl,rfl⟩;go_wp2_with fail;simp[bodyPost,results,Tryz.results101];exact⟨HD,.inl ⟨⟨kN,HX.out⟩,HI⟩⟩
  .have hb:((au t a n:Int)==x)=false:=by simpa using hx
   have HX:Hid (¬ (au t a n:Int)=x):=hx;clear hx;go_wp2_with fail;refine(cQ _ _).mono ?_;rintro e w5 ⟨rfl,rfl⟩;exact⟨rfl,HD,.inr ⟨λh=>HX.out h.2,rfl⟩⟩
 .exact⟨rfl,HD,.inr ⟨λh=>kN h.1,rfl⟩⟩
theorem AO(g a:Nat)(t:ByteArray)(w:World)(h:dA g t a w)(hs:t.size<=1000)(ha:a<=t.size)(kN:¬ a+1+au t a 1<=t.size) :
 Calls be 155 #[Ig (Z ⟨g,0,Y⟩)] w λe w'=>e=dC 1/\Hid (Rd g w w'):=by
 have HT:Hid (Calls be 99 #[Ig (Z ⟨g,0,Y⟩),O J 1] w λe w'=>Hid (Rd g w w')/\((a+1<=t.size/\e=sh (O J (au t a 1))/\Hid (dA g t (a+1) w'))\/(¬ a+1<=t.size/\e=dC 1))):=dR g a 1 t w h hs ha (by omega);clear h;go_enter Tryz.func155,Tryz.ntmps155;go_wp2_with fail;refine HT.out.mono ?_;rintro e w1 ⟨HD,⟨h1,rfl,HI⟩|⟨h1,rfl⟩⟩
 .have xI:Hid (Calls be 152 #[Ig (Z ⟨g,0,Y⟩),O J (au t a 1:Nat)] w1 λe w'=>e=dC 1/\∃m,w'=w1.drewN m):=Cv g (a+1) (au t a 1) t w1 HI.out.c0 HI.out.c1 hs h1 kN
  go_wp2_with fail;refine xI.out.mono ?_;rintro e w2 ⟨rfl,m,rfl⟩;exact⟨rfl,rfl,HD.out.trans (nU g w1 m)⟩
 .exact⟨rfl,rfl,HD⟩
theorem uZ(g a:Nat)(t:ByteArray)(w:World)(h:dA g t a w)(hs:t.size<=1000)(ha:a<=t.size) :
 Calls be 155 #[Ig (Z ⟨g,0,Y⟩)] w λe w'=>Hid (Rd g w w')/\((a+1+au t a 1<=t.size/\e=sh (I (t.extract (a+1) (a+1+au t a 1)))/\Hid (dA g t (a+1+au t a 1) w'))\/(¬ a+1+au t a 1<=t.size/\e=dC 1)):=by
 by_cases kN:a+1+au t a 1<=t.size
 .refine(o8 g a _ t _ w h hs rfl kN rfl).mono ?_
  rintro e w' ⟨rfl,h1,h2⟩;exact⟨h2,.inl ⟨kN,rfl,h1⟩⟩
 .refine(AO g a t w h hs ha kN).mono ?_
  rintro e w' ⟨rfl,h2⟩;exact⟨h2,.inr ⟨kN,rfl⟩⟩
def lwb(c:UInt8):UInt8:=if 65<=c.toNat/\c.toNat<=90 then(c.toNat+32).toUInt8 else c
def wA(s:ByteArray):ByteArray:=mk (s.data.toList.map lwb)
theorem xV(s:ByteArray):(wA s).size=s.size:=by unfold wA;rw[gB];simp
def j6(s:ByteArray)(k j:Nat):Nat:=if j<k then(lwb (s.data.toList.getD j 0)).toNat else(s.data.toList.getD j 0).toNat
theorem Ku(s:ByteArray)(j:Nat)(hj:j<s.size):j6 s s.size j=((wA s).data.toList.getD j 0).toNat:=by
 have ua:j<s.data.toList.length:=by simpa using hj
 unfold j6 wA;rw[if_pos hj,nL];simp only[Qk,List.getElem?_map,Ic ua];rfl
theorem Ew(s:ByteArray)(k j:Nat)(hl:¬ (65<=(s.data.toList.getD k 0).toNat/\(s.data.toList.getD k 0).toNat<=90)):j6 s (k+1) j=j6 s k j:=by
 unfold j6;by_cases h1:j<k
 .rw[if_pos h1,if_pos (by omega)]
 .by_cases h2:j=k
  .subst h2
   rw[if_pos (by omega),if_neg (by omega)];unfold lwb;rw[if_neg hl]
  .rw[if_neg h1,if_neg (by omega)]
theorem Ex(s:ByteArray)(k:Nat)(hl:65<=(s.data.toList.getD k 0).toNat/\(s.data.toList.getD k 0).toNat<=90):j6 s (k+1) k=(s.data.toList.getD k 0).toNat+32:=by
 unfold j6 lwb;rw[if_pos (by omega),if_pos hl];show((s.data.toList.getD k 0).toNat+32)%256=_;omega
theorem Ey(s:ByteArray)(k j:Nat)(h:j≠k):j6 s (k+1) j=j6 s k j:=by
 unfold j6;by_cases h1:j<k
 .rw[if_pos h1,if_pos (by omega)]
 .rw[if_neg h1,if_neg (by omega)]
theorem Ez(s:ByteArray)(w:World)(hs:s.size<=1000) :
 Calls be 154 #[I s] w λe w'=>e=sh (I (wA s))/\Below w.heap.size w w':=by
 have XP:=λw s=>Lib.run_convert_string_bytes (P:=be) w 9 127 5 s (u:=.string) Iv JK Jm;have dB:Hid (∀j,j<s.size->(Ob w 5 s).cell? ⟨w.heap.size,j,Y⟩=Z (O .u8 (j6 s 0 j:Nat))):=λj hj=>Lib.bytesWorld_cell w 5 s j hj;have Xv:Hid (∀j,j<s.size->(Ob w 5 s).frozen? ⟨w.heap.size,j,Y⟩=false):=λj hj=>by
  have h:=Lib.bytesWorld_at_new w 5 s;have h2:s.size<=(Lib.bytesCells w 5 s).size:=by simp[Lib.bytesCells]
  simp only[Ih,h];simp;omega
 have hX:Below w.heap.size w (Ob w 5 s):=by
  rw[<- nf w s];exact((Ia _ _).drew).alloc (By _) _
 have HX0:Hid (Below w.heap.size w (Ob w 5 s)):=hX;clear hX;obtain⟨W1,gA⟩:∃W1,W1=Ob w 5 s:=⟨_,rfl⟩;go_enter Tryz.func154,Tryz.ntmps154;go_wp2_with fail;rw[<- gA] at dB HX0 Xv ⊢;clear XP gA;have Ka:(wA s).data.toList.length=s.size:=by have:=xV s;simpa using this
 have HBK:Hid (∀cap W,(∀j,j<s.size->W.cell? ⟨w.heap.size,j,Y⟩=Z (O .u8 (j6 s s.size j:Nat)))->(convert 127 9 (U (Z ⟨w.heap.size,0,Y⟩) s.size cap)).run be W=.ok (I (wA s)) W):=λcap W hW=>by
  have h:=run_convert_bytes_back (P:=be) W 127 9 5 ⟨w.heap.size,0,Y⟩ cap (wA s).data.toList JK Jm Iv (λj hj=>by
   have h2:=hW j (by omega);rw[Ku s j (by omega),Qk,Ic hj] at h2;have ha:(⟨w.heap.size,0,Y⟩:Addr).add j=⟨w.heap.size,j,Y⟩:=by
    by_cases MZ:j=0<;>simp[Addr.add,MZ]
   rw[ha];simpa using h2)
  rw[Ka] at h;exact h
 clear Ka;go_loopw [10] (λvi wr=>∃(k:Nat),vi=O J k/\k<=s.size/\Hid (∀j,j<s.size->wr.cell? ⟨w.heap.size,j,Y⟩=Z (O .u8 (j6 s k j:Nat)))/\Hid (∀j,j<s.size->wr.frozen? ⟨w.heap.size,j,Y⟩=false)/\Hid (Below w.heap.size w wr))
  (λvi _=>s.size-(intOf vi).toNat)
 case atStart=>exact⟨0,rfl,by omega,dB,Xv,HX0⟩
 case round=>
  obtain⟨k,rfl,hk,HB,HF,HX⟩:=hrel;by_cases gj:k<s.size
  .have hc:decide ((k:Int)<(s.size:Int))=true:=by simp;omega
   have bj:=HB.out k gj;have iz:=HF.out k gj;have eP:(0:Int)<=(k:Int):=by omega
   have TN:(k:Int)<(s.size:Int):=by omega
   have Ea:((k:Int)).toNat=k:=by omega
   have HV:Hid (j6 s k k=(s.data.toList.getD k 0).toNat):=(show _=_ by unfold j6;rw[if_neg (by omega)]);rw[HV.out] at bj;have ahV:=(s.data.toList.getD k 0).toNat_lt;by_cases hl:65<=(s.data.toList.getD k 0).toNat/\(s.data.toList.getD k 0).toNat<=90
   .have HT:Hid (j6 s (k+1) k=(s.data.toList.getD k 0).toNat+32):=Ex s k hl
    generalize hb:(s.data.toList.getD k 0).toNat=b at *;clear hb;have lY:decide ((65:Int)<=(b:Int))=true:=by simp;omega
    have En:decide ((b:Int)<=90)=true:=by simp;omega
    have NM:IntKind.u8.wrap ((b:Int)-65)=(b:Int)-65:=by rw[IntKind.wrap_u8];omega
    have qR:IntKind.u8.wrap ((b:Int)-65+97)=((b+32:Nat):Int):=by rw[IntKind.wrap_u8];omega
    go_wp2_with fail;refine⟨⟨k+1,by simp,by omega,?_,?_,?_⟩,by simp[intOf];omega⟩
    .show ∀_,_
     intro j hj;by_cases M5:j=k
     .subst M5
      rw[World.cell?_setCell_same _ _ _ bj,HT.out];simp
     .refine(JC _ _ _ _ (λe=>by injection e with e1 e2;exact M5 e2.symm)).trans ?_
      rw[Ey s k j M5];exact HB.out j hj
    .show ∀_,_
     intro j hj;simpa using HF.out j hj
    .exact HX.out.setCell (p:=⟨w.heap.size,k,Y⟩) (By _) _
   .have HT:Hid (∀j,j6 s (k+1) j=j6 s k j):=λj=>Ew s k j hl
    generalize hb:(s.data.toList.getD k 0).toNat=b at *;clear hb;have aK:Hid (∀j,j<s.size->wr.cell? ⟨w.heap.size,j,Y⟩=Z (O .u8 (j6 s (k+1) j:Nat))):=λj hj=>by rw[HT.out j];exact HB.out j hj
    by_cases h65:65<=b
    .have lY:decide ((65:Int)<=(b:Int))=true:=by simp;omega
     have En:decide ((b:Int)<=90)=false:=by simp;omega
     go_wp2_with fail;refine⟨⟨k+1,by simp,by omega,aK,HF,HX⟩,by simp[intOf];omega⟩
    .have lY:decide ((65:Int)<=(b:Int))=false:=by simp;omega
     go_wp2_with fail;refine⟨⟨k+1,by simp,by omega,aK,HF,HX⟩,by simp[intOf];omega⟩
  .have hc:decide ((k:Int)<(s.size:Int))=false:=by simp;omega
   have NJ:k=s.size:=by omega
   subst NJ;have uh:=λcap=>HBK.out cap wr HB.out;go_wp2_with fail;simp[bodyPost,results,Tryz.results154];exact HX.out
end Go.Proofs.YtfidjlcdlakceaaGreatDoor
namespace Go.Proofs.YtfidjlcdlakceaaGreatDoor
open Go.RowKit Go.Lib
def sA(t:ByteArray):Nat->List ByteArray->Prop
 |a,[]=>a+1<=t.size/\au t a 1=0
 |a,l::r=>au t a 1=l.size/\a+1+l.size<=t.size/\t.extract (a+1) (a+1+l.size)=l/\sA t (a+1+l.size) r
def behind:Nat->List ByteArray->Nat
 |a,[]=>a
 |a,l::r=>behind (a+1+l.size) r
abbrev vc(x:ByteArray):List UInt8:=x.data.toList
def lenOf:Value->Nat
 | U _ n _=>n
 |_=>0
theorem NV{l:ByteArray}(h:aA l=true):∀j,j<l.size->90<(l.data.toList.getD j 0).toNat\/(l.data.toList.getD j 0).toNat<65:=by
 intro j hj;unfold aA at h;simp only[Bool.and_eq_true,List.all_eq_true] at h;have ua:j<l.data.toList.length:=by simpa using hj
 have h2:=h.2 (l.data.toList[j]) (List.getElem_mem ua);rw[Qk,Ic ua]
 revert h2
 generalize l.data.toList[j]=c;intro h2;simp[zZ] at h2;simp;omega
theorem sB{l:ByteArray}(h:aA l=true):1<=l.size/\l.size<=30:=by
 unfold aA at h;simp only[Bool.and_eq_true,decide_eq_true_eq] at h;exact h.1
theorem sC:∀(xs:List (List UInt8)),Lib.join xs [46]=jn xs
 |[]=>rfl
 |[x]=>by simp[Lib.join,jn]
 |x::y::r=>by
  have ih:=sC (y::r);simp[Lib.join,jn] at ih ⊢;first|exact ih|simp[ih]
theorem Cw{base:Nat}{w:World}{v:Value}{l:List ByteArray}(h:df base w v l):lenOf v=l.length:=by
 rcases h.form with⟨rfl,rfl⟩|⟨g,c,rfl,_⟩
 .rfl
 .rfl
theorem vd{base:Nat}{w:World}{v:Value}{l:List ByteArray}(h:df base w v l):∃p c,v=U p l.length c:=by
 rcases h.form with⟨rfl,rfl⟩|⟨g,c,rfl,_⟩
 .exact⟨Y,0,rfl⟩
 .exact⟨_,c,rfl⟩
theorem Rd.Cx{g:Nat}{w w1 w2:World}(h:Rd g w w1)(hb:Below w.heap.size w1 w2):Rd g w w2:=
 ⟨hb.os.trans h.os,hb.tape.trans h.tape,hb.output.trans h.output,Ir h.size hb.size,λk hk hg=>(hb.block k hk).trans (h.block k hk hg)⟩
theorem join_nil(W:World):Calls be 62 #[U Y 0 0,I ⟨#[46]⟩] W λe w'=>e=sh (I ⟨#[]⟩)/\Below W.heap.size W w':=by
 go_enter Tryz.func62,Tryz.ntmps62;go_wp2_with fail;go_ret;exact⟨rfl,Ia _ _⟩
theorem xW(base:Nat)(ls:List ByteArray)(W:World)(v:Value)(ho:df base W v ls)(hn:ls.length<=1000)(hz:(jn (ls.map vc)).length<=100000) :
 Calls be 62 #[v,I ⟨#[46]⟩] W λe w'=>e=sh (I (mk (jn (ls.map vc))))/\Below W.heap.size W w':=by
 rcases ho.form with⟨rfl,rfl⟩|⟨g,c,rfl,hc,_,hg,bj⟩
 .exact join_nil W
 .have h3:=Tryz.strings_Join g 0 c ls ⟨#[46]⟩ W (λj x hj=>by
   obtain⟨M6,ua⟩:=List.getElem?_eq_some_iff.1 hj;rw[Nat.zero_add,bj j M6];simp[List.getD,M6,ua]) hg (by omega) hc (by
   rw[show(ByteArray.mk #[46]).data.toList=[46] from rfl,sC];exact Ir hz (by omega))
  rw[show(ByteArray.mk #[46]).data.toList=[46] from rfl,sC] at h3;exact h3
theorem mf(w:World)(m:Nat):w.Extends (w.drewN m):=⟨rfl,rfl,rfl,By _,λ_ _=>rfl,λ_ _=>rfl,λ_ _=>rfl⟩
theorem NW{g base:Nat}{wr w2:World}{lv:Value}{D ls:List ByteArray}(h:Hid (Rd g wr w2))(ho:Hid (df base wr lv D))(he:Hid (ls=D++[]))(hg:g<base):Hid (df base w2 lv ls):=(show df base w2 lv ls by
 have h:=h.out.own ho.out hg;rw[he.out,List.append_nil];exact h)
theorem Kv{g base:Nat}{wr w2:World}{lv:Value}{D:List ByteArray}(h:Hid (Rd g wr w2))(ho:Hid (df base wr lv D))(hg:g<base):Hid (df base w2 lv D):=h.out.own ho.out hg
theorem Cy(g a:Nat)(ls:List ByteArray)(t:ByteArray)(w:World)(h:dA g t a w)(hs:t.size<=1000)(rX:sA t a ls)(j7:∀l∈ls,aA l=true)(hn:ls.length<=8)(hz:(jn (ls.map vc)).length<=100000) :
 Calls be 102 #[Ig (Z ⟨g,0,Y⟩)] w λe w'=>e=sh (I (mk (jn (ls.map vc))))/\Hid (dA g t (behind a ls+1) w')/\Hid (Rd g w w'):=by
 obtain⟨i0,eP,cE,gn,ga⟩:=info_parts Tryz.wu;have c1:=h.c1;have mA:=h.hg;have HI:Hid (dA g t a w):=h;have o6:Hid (sA t a ls):=rX;have HLB:Hid (∀l∈ls,aA l=true):=j7;have HJ:Hid (∀W v,df w.heap.size W v ls->Calls be 62 #[v,I ⟨#[46]⟩] W λe w'=>e=sh (I (mk (jn (ls.map vc))))/\Below W.heap.size W w'):=λW v ho=>xW _ ls W v ho (by omega) hz;have HN:Hid (ls.length<=8):=hn;clear h rX j7 hz hn;generalize mk (jn (ls.map vc))=R at *;go_enter Tryz.func102,Tryz.ntmps102;go_wp2_with fail;go_quiet (fail)
 go_wp2_with fail;go_loopw [3,4,5] (λlv pv bv wr=>pv=Ig (Z ⟨g,0,Y⟩)/\bv=O J a/\∃(D r:List ByteArray) (b:Nat),Hid (ls=D++r)/\Hid (sA t b r)/\Hid (behind b r=behind a ls)/\Hid (dA g t b wr)/\Hid (Rd g w wr)/\Hid (df w.heap.size wr lv D)) (λlv _ _ _=>ls.length-lenOf lv)
 case atStart=>exact⟨rfl,rfl,[],ls,a,rfl,o6,rfl,HI.out.ext (mf _ _),(Rd.ext (mf _ _):Rd g w _),o0 _ _⟩
 case round=>
  obtain⟨rfl,rfl,D,r,b,HE,HS,HH,HR,HD,HO⟩:=hrel;have bb:=HD.out.size;rcases r with _|⟨l,r⟩
  .have HP:Hid (Calls be 153 #[Ig (Z ⟨g,0,Y⟩)] wr λe w'=>e=sh (O .u8 0)/\Hid (dA g t b w')/\Hid (Rd g wr w')):=(show Calls _ _ _ _ _ by
    have h:=AM g b t wr HR.out HS.out.1;rw[HS.out.2] at h;exact h)
   go_wp2_with fail;refine HP.out.mono ?_;rintro e w1 ⟨rfl,kA,iR⟩;go_wp2_with fail;refine(ev g b 1 0 t w1 kA.out hs HS.out.1 (by omega) HS.out.2).mono ?_;rintro e w2 ⟨rfl,j8,kP⟩;have HX:Hid (Rd g wr w2):=iR.out.trans kP.out;have jF:=NW HX HO HE mA;go_wp2_with fail;refine(HJ.out _ _ jF.out).mono ?_;rintro e w3 ⟨rfl,bn⟩;have cT:Hid (Below w2.heap.size w2 w3):=bn;clear bn;go_wp2_with fail;go_ret;refine⟨rfl,?_,?_⟩
   .rw[<- HH.out]
    exact j8.out.below cT.out j8.out.hg
   .exact(HD.out.trans HX.out).trans (Rd.ff cT.out (By _))
  .have hl:aA l=true:=HLB.out l (by rw[HE.out];simp)
   have XU:=sB hl;have EA:Hid (au t b 1=l.size):=HS.out.1;have xN:Hid (b+1+l.size<=t.size):=HS.out.2.1;have Xt:Hid (t.extract (b+1) (b+1+l.size)=l):=HS.out.2.2.1;have Kw:Hid (sA t (b+1+l.size) r):=HS.out.2.2.2;have hDn:D.length+1<=ls.length:=by rw[HE.out];simp
   have Ko:D.length<8:=by have:=HN.out;omega
   have HP:Hid (Calls be 153 #[Ig (Z ⟨g,0,Y⟩)] wr λe w'=>e=sh (O .u8 (l.size:Nat))/\Hid (dA g t b w')/\Hid (Rd g wr w')):=(show Calls _ _ _ _ _ by
    have h:=AM g b t wr HR.out (by have:=xN.out;omega);rw[EA.out] at h;exact h)
   have hm0:((l.size:Int)==0)=false:=beq_eq_false_iff_ne.2 (by omega);have mW:¬ (l.size:Int)=0:=by omega
   have MS:decide ((192:Int)<=(l.size:Int))=false:=by simp;omega
   have Cz:Hid (aA l=true):=hl;have XV:l.size<=Ii:=by unfold Ii;omega
   clear HS hl;go_wp2_with fail;refine HP.out.mono ?_;rintro e w1 ⟨rfl,kA,iR⟩;go_wp2_with fail;refine(o8 g b l.size t l w1 kA.out hs EA.out xN.out Xt.out).mono ?_;rintro e w2 ⟨rfl,j8,kP⟩;go_wp2_with fail;refine(AB l w2 (by omega) (NV Cz.out)).mono ?_;rintro e w3 ⟨rfl,hx3⟩;have rG:Hid (dA g t (b+1+l.size) w3):=j8.out.ext hx3;have Eu:Hid (Rd g wr w3):=(iR.out.trans kP.out).trans (Rd.ext hx3);have gI:=Kv Eu HO mA;have Sb:Hid (Rd g w w3):=HD.out.trans Eu.out;have aeI:=Sb.out.size;clear hx3 Eu iR kP kA j8 HO HD HR HP;obtain⟨p,c,hv⟩:=vd gI.out;subst hv;have hd8:decide ((D.length:Int)<8)=true:=by simp;omega
   go_wp2_with fail;refine(aW l w3 XV).mono ?_;rintro e w4 ⟨rfl,wB⟩;subst wB;rw[Cz.out];go_wp2_with fail;refine(bZ _ _).mono ?_;rintro e w5 ⟨rfl,uo⟩;subst uo;go_wp2_with (at_builtin;refine wpList_append_own _ rfl _ _ 111 rfl w.heap.size 9 i0 _ 1 16 Jn eP cE gn ga rfl (by omega) _ D.length (D.map I) rfl ?hown ⟨w5.heap.size,0,Y⟩ 1 1 [I l] rfl rfl ?hnews (nS [_]) ?h63 ?hbytes ?hbase ?_)
   case hown=>exact gI.out.below ((Ia _ _).alloc (By _) _)
   case hnews=>(intro j u hj;rw[Addr.add_lit];exact(dF (by simp)).trans (by simpa using hj))
   case h63=>(unfold Ii;omega)
   case hbytes=>omega
   case hbase=>(simp;omega)
   intro v' w6 r1 r2 r3;have hB6:Below w.heap.size w5 w6:=((Ia _ _).alloc aeI _).grown r2 (by simp;omega) (λj hj=>(gI.out.lt j hj).1);have HDX:Hid (Rd g w w6):=Sb.out.Cx hB6;have HRX:Hid (dA g t (b+1+l.size) w6):=rG.out.below hB6 mA;have Sf:Hid (df w.heap.size w6 v' (D++[l])):=mY (l:=D) r1;have HEX:Hid (ls=(D++[l])++r):=(show ls=_ by rw[HE.out];simp);have HHX:Hid (behind (b+1+l.size) r=behind a ls):=HH;clear r1 r2 r3 hB6 gI Sb rG HE HH;go_wp2_with fail;refine⟨⟨rfl,rfl,D++[l],r,b+1+l.size,HEX,Kw,HHX,HRX,HDX,Sf⟩,?_⟩;rw[Cw Sf.out,show lenOf (U p D.length c)=D.length from rfl,Ij,JB];omega
def GK(t:ByteArray):Nat->Nat->Nat->List ByteArray->Option Nat->Option (List ByteArray×Nat)
 |0,_,_,_,_=>Y
 |f+1,b,bg,D,p=>
  if b<t.size then
   if au t b 1=0 then Z (D,p.getD (b+1))
   else if 192<=au t b 1 then
    (if b+2<=t.size/\au t b 2-49152<bg then GK t f (au t b 2-49152) (au t b 2-49152) D (Z (p.getD (b+2))) else Y)
   else
    (if b+1+au t b 1<=t.size/\aA (wA (t.extract (b+1) (b+1+au t b 1)))=true/\D.length<8 then GK t f (b+1+au t b 1) bg (D++[wA (t.extract (b+1) (b+1+au t b 1))]) p else Y)
  else Y
def ub(t:ByteArray)(b bg:Nat)(D:List ByteArray)(p:Option Nat):Option (List ByteArray×Nat):=GK t (bg*9+(8-D.length)+1) b bg D p
theorem nV(t:ByteArray):∀(f g b bg:Nat) (D:List ByteArray) (p:Option Nat),bg*9+(8-D.length)<f->bg*9+(8-D.length)<g->GK t f b bg D p=GK t g b bg D p
 |0,_,_,_,_,_,h,_=>by omega
 |_+1,0,_,_,_,_,_,h=>by omega
 |f+1,g+1,b,bg,D,p,hf,hg=>by
  simp only[GK];by_cases h1:b<t.size
  .rw[if_pos h1,if_pos h1]
   by_cases h2:au t b 1=0
   .rw[if_pos h2,if_pos h2]
   .rw[if_neg h2,if_neg h2]
    by_cases h3:192<=au t b 1
    .rw[if_pos h3,if_pos h3]
     by_cases h4:b+2<=t.size/\au t b 2-49152<bg
     .rw[if_pos h4,if_pos h4]
      exact nV t f g _ _ _ _ (by omega) (by omega)
     .rw[if_neg h4,if_neg h4]
    .rw[if_neg h3,if_neg h3]
     by_cases h4:b+1+au t b 1<=t.size/\aA (wA (t.extract (b+1) (b+1+au t b 1)))=true/\D.length<8
     .rw[if_pos h4,if_pos h4]
      exact nV t f g _ _ _ _ (by rw[Ij,JB];omega) (by rw[Ij,JB];omega)
     .rw[if_neg h4,if_neg h4]
  .rw[if_neg h1,if_neg h1]
theorem T1{t:ByteArray}{b bg:Nat}{D:List ByteArray}{p:Option Nat}(h:¬ b<t.size):ub t b bg D p=Y:=by unfold ub;simp only[GK];rw[if_neg h]
theorem NX{t:ByteArray}{b bg:Nat}{D:List ByteArray}{p:Option Nat}(h:b<t.size)(h0:au t b 1=0):ub t b bg D p=Z (D,p.getD (b+1)):=by unfold ub;simp only[GK];rw[if_pos h,if_pos h0]
theorem Kx{t:ByteArray}{b bg:Nat}{D:List ByteArray}{p:Option Nat}(h:b<t.size)(h0:192<=au t b 1):ub t b bg D p=if b+2<=t.size/\au t b 2-49152<bg then ub t (au t b 2-49152) (au t b 2-49152) D (Z (p.getD (b+2))) else Y:=by
 have e:ub t b bg D p=if b+2<=t.size/\au t b 2-49152<bg then GK t (bg*9+(8-D.length)) (au t b 2-49152) (au t b 2-49152) D (Z (p.getD (b+2))) else Y:=by
  unfold ub;simp only[GK];rw[if_pos h,if_neg (by omega),if_pos h0]
 rw[e];by_cases h1:b+2<=t.size/\au t b 2-49152<bg
 .rw[if_pos h1,if_pos h1]
  exact nV t _ _ _ _ _ _ (by omega) (by omega)
 .rw[if_neg h1,if_neg h1]
theorem EB{t:ByteArray}{b bg:Nat}{D:List ByteArray}{p:Option Nat}(h:b<t.size)(h0:au t b 1≠0)(h1:¬ 192<=au t b 1):ub t b bg D p=if b+1+au t b 1<=t.size/\aA (wA (t.extract (b+1) (b+1+au t b 1)))=true/\D.length<8 then ub t (b+1+au t b 1) bg (D++[wA (t.extract (b+1) (b+1+au t b 1))]) p else Y:=by
 have e:ub t b bg D p=if b+1+au t b 1<=t.size/\aA (wA (t.extract (b+1) (b+1+au t b 1)))=true/\D.length<8 then GK t (bg*9+(8-D.length)) (b+1+au t b 1) bg (D++[wA (t.extract (b+1) (b+1+au t b 1))]) p else Y:=by
  unfold ub;simp only[GK];rw[if_pos h,if_neg h0,if_neg h1]
 rw[e];by_cases h2:b+1+au t b 1<=t.size/\aA (wA (t.extract (b+1) (b+1+au t b 1)))=true/\D.length<8
 .rw[if_pos h2,if_pos h2]
  exact nV t _ _ _ _ _ _ (by rw[Ij,JB];omega) (by omega)
 .rw[if_neg h2,if_neg h2]
structure Nm(g:Nat)(t:ByteArray)(w:World)(lv:Value)(k b:Nat)(D:List ByteArray)(p:Option Nat)(W:World):Prop where
 di:dA k t b W
 rd:Rd g w W
 own:df w.heap.size W lv D
 wh:(p=Y/\k=g)\/(∃q,p=Z q/\w.heap.size<=k/\dA g t q W/\q<=t.size/\lv.ownBlock≠Z k)
 lt:g<w.heap.size
theorem Nm.ne{g k b:Nat}{t:ByteArray}{w W:World}{lv:Value}{D:List ByteArray}{p:Option Nat}(h:Nm g t w lv k b D p W):lv.ownBlock≠Z k:=by
 rcases h.wh with⟨_,rfl⟩|⟨_,_,_,_,_,h5⟩
 .intro e
  have:=(h.own.lt _ e).1;have:=h.lt;omega
 .exact h5
theorem Nm.text{g k b:Nat}{t:ByteArray}{w W:World}{lv:Value}{D:List ByteArray}{p:Option Nat}(h:Nm g t w lv k b D p W):W.cell? ⟨g,0,Y⟩=Z (I t):=by
 rcases h.wh with⟨_,rfl⟩|⟨_,_,_,h4,_,_⟩
 .exact h.di.c0
 .exact h4.c0
theorem Rd.di{k g a:Nat}{t:ByteArray}{W W':World}(h:Rd k W W')(hg:dA g t a W)(bE:g≠k):dA g t a W' where
 c0:=(Oi (a:=⟨g,0,Y⟩) (h.block g hg.hg bE)).trans hg.c0
 c1:=(Oi (a:=⟨g,1,Y⟩) (h.block g hg.hg bE)).trans hg.c1
 hz:=(World.frozen?_of_block (a:=⟨g,1,Y⟩) (h.block g hg.hg bE)).trans hg.hz
 hg:=Iu hg.hg h.size
theorem Nm.rd2{g k b:Nat}{t:ByteArray}{w W W':World}{lv:Value}{D:List ByteArray}{p:Option Nat}(h:Nm g t w lv k b D p W)(h2:Hid (Rd k W W')):Rd g w W':=by
 rcases h.wh with⟨_,rfl⟩|⟨q,_,h3,_,_,_⟩
 .exact h.rd.trans h2.out
 .exact⟨h2.out.os.trans h.rd.os,h2.out.tape.trans h.rd.tape,h2.out.output.trans h.rd.output,Ir h.rd.size h2.out.size,λj hj hg=>(h2.out.block j (Iu hj h.rd.size) (by omega)).trans (h.rd.block j hj hg)⟩
theorem Nm.call{g k b c:Nat}{t:ByteArray}{w W W':World}{lv:Value}{D:List ByteArray}{p:Option Nat}(h:Nm g t w lv k b D p W)(h1:Hid (dA k t c W'))(h2:Hid (Rd k W W')):Nm g t w lv k c D p W':=by
 have hl:=h.lt;refine⟨h1.out,h.rd2 h2,?_,?_,hl⟩
 .have bE:=h.ne
  rcases h.own.2 with⟨rfl,h0⟩|⟨j,c,cur,rfl,dN,hk,r⟩
  .exact⟨h.own.1,.inl ⟨rfl,h0⟩⟩
  .refine⟨h.own.1,.inr ⟨j,c,cur,rfl,dN,(h2.out.block j (Ib.1 hk).1 ?_).trans hk,r⟩⟩
   intro e;exact bE (by rw[e];rfl)
 .rcases h.wh with⟨h3,h4⟩|⟨q,h3,h4,h5,h6,h7⟩
  .exact .inl ⟨h3,h4⟩
  .exact .inr ⟨q,h3,h4,h2.out.di h5 (by omega),h6,h7⟩
theorem Nm.below{g k b:Nat}{t:ByteArray}{w W W':World}{lv:Value}{D:List ByteArray}{p:Option Nat}(h:Nm g t w lv k b D p W)(hb:Below W.heap.size W W'):Nm g t w lv k b D p W':=
 h.call (h.di.below hb h.di.hg) (Rd.ff hb (By _):Rd k W W')
theorem Nm.grown{g k b:Nat}{t l:ByteArray}{w W W':World}{lv v':Value}{D:List ByteArray}{p:Option Nat}(h:Nm g t w lv k b D p W)(h1:df w.heap.size W' v' (D++[l]))(h2:W.grownBy W' lv.ownBlock)(h3:v'.ownBlock=lv.ownBlock\/v'.ownBlock=Z W.heap.size):Nm g t w v' k b (D++[l]) p W':=by
 have hl:=h.lt;have bE:=h.ne;have hk:=h.di.hg;have hblk:∀q,q<w.heap.size->W'.heap[q]?=W.heap[q]?:=λq hq=>h2.block q (Iu hq h.rd.size) (λe=>by have:=(h.own.lt _ e.symm).1;omega);have isr:∀q a,(q=k\/q=g)->dA q t a W->dA q t a W':=λq a hq hr=>by
  have hqb:W'.heap[q]?=W.heap[q]?:=by
   rcases hq with rfl|rfl
   .exact h2.block q hk (λe=>bE e.symm)
   .exact hblk q hl
  exact⟨(Oi (a:=⟨q,0,Y⟩) hqb).trans hr.c0,(Oi (a:=⟨q,1,Y⟩) hqb).trans hr.c1,(World.frozen?_of_block (a:=⟨q,1,Y⟩) hqb).trans hr.hz,Iu hr.hg h2.size⟩
 refine⟨isr k b (.inl rfl) h.di,⟨h2.os.trans h.rd.os,h2.tape.trans h.rd.tape,h2.output.trans h.rd.output,Ir h.rd.size h2.size,λj hj hg=>(hblk j hj).trans (h.rd.block j hj hg)⟩,h1,?_,hl⟩;rcases h.wh with⟨h4,h5⟩|⟨q,h4,h5,h6,h7,h8⟩
 .exact .inl ⟨h4,h5⟩
 .refine .inr ⟨q,h4,h5,isr g q (.inr rfl) h6,h7,?_⟩
  rcases h3 with e|e
  .rw[e];exact h8
  .rw[e];intro e2;have:=Option.some.inj e2;omega
theorem Nm.rest{g k b r:Nat}{t:ByteArray}{w W:World}{lv:Value}{D:List ByteArray}{p:Option Nat}(h:Nm g t w lv k b D p W)(hb:b<=t.size):Nm g t w lv W.heap.size r D (Z (p.getD b)) (W.alloc (AI #[I t,O J r] 107)):=by
 have hx:W.Extends (W.alloc (AI #[I t,O J r] 107)):=(IB W).alloc _;have hn:(W.alloc (AI #[I t,O J r] 107)).heap[W.heap.size]?=Z (AI #[I t,O J r] 107 (0,0)):=Ie W _;have aL:Below W.heap.size W (W.alloc (AI #[I t,O J r] 107)):=(Ia _ _).alloc (By _) _;refine⟨⟨by simp only[World.cell?,hn];rfl,by simp only[World.cell?,hn];rfl,by simp only[Ih,hn];rfl,by simp⟩,h.rd.trans (Rd.ext hx),h.own.below aL,.inr ⟨p.getD b,rfl,h.rd.size,?_,?_,?_⟩,h.lt⟩
 .rcases h.wh with⟨rfl,rfl⟩|⟨q,rfl,_,h5,_,_⟩
  .exact h.di.ext hx
  .exact h5.ext hx
 .rcases h.wh with⟨rfl,rfl⟩|⟨q,rfl,_,_,h6,_⟩
  .exact hb
  .exact h6
 .intro e
  have:=(h.own.lt _ e).2;omega
theorem Nm.fin{g k b:Nat}{t:ByteArray}{w W:World}{lv:Value}{D:List ByteArray}{p:Option Nat}(h:Nm g t w lv k b D p W)(hb:b<=t.size):dA g t (p.getD b) W/\p.getD b<=t.size:=by
 rcases h.wh with⟨rfl,rfl⟩|⟨q,rfl,_,h5,h6,_⟩
 .exact⟨h.di,hb⟩
 .exact⟨h5,h6⟩
theorem Ky(t:ByteArray)(b:Nat)(h:192<=au t b 1):49152<=au t b 2:=by
 have e:au t b 2=au t b 1*256+(t.data[b+1]?.getD 0).toNat:=rfl;omega
theorem AP:∀(D:List ByteArray),(∀l∈D,l.size<=30)->(jn (D.map vc)).length<=D.length*31
 |[],_=>by simp[jn]
 |[x],h=>by have:=h x (by simp);simp[jn];omega
 |x::y::r,h=>by
  have ih:=AP (y::r) (λl hl=>h l (List.mem_cons_of_mem _ hl));have hx:=h x (by simp);have hx2:(vc x).length=x.size:=by simp
  simp only[List.map_cons,jn,Ij,List.length_cons] at ih ⊢;omega
theorem CA(t:ByteArray)(b f:Nat)(h:b+1+f<=t.size):(t.extract (b+1) (b+1+f)).size=f:=by simp;omega
theorem T2(g a:Nat)(t:ByteArray)(w:World)(h:dA g t a w)(hs:t.size<=1000)(ha:a<=t.size) :
 Calls be 102 #[Ig (Z ⟨g,0,Y⟩)] w λe w'=>Hid (Rd g w w')/\((∃ls q,ub t a a [] Y=Z (ls,q)/\(ls.length<=8/\∀l∈ls,l.size<=30)/\q<=t.size/\e=sh (I (mk (jn (ls.map vc))))/\Hid (dA g t q w'))\/(ub t a a [] Y=Y/\e=dC 1)):=by
 obtain⟨i0,eP,cE,gn,ga⟩:=info_parts Tryz.wu;have c1:=h.c1;have HI:Hid (dA g t a w):=h;have mA:=h.hg;clear h;obtain⟨M7,T3⟩:∃R,R=ub t a a [] Y:=⟨_,rfl⟩;rw[<- T3];have NY:Hid (ub t a a [] Y=M7):=T3.symm;clear T3;have HJ:Hid (∀(D:List ByteArray) (W:World) (v:Value),df w.heap.size W v D->D.length<=8->(∀l∈D,l.size<=30)->∃R,R=mk (jn (D.map vc))/\Calls be 62 #[v,I ⟨#[46]⟩] W λe w'=>e=sh (I R)/\Below W.heap.size W w'):=λD W v ho hd hl=>⟨_,rfl,xW _ D W v ho (by omega) (by have:=AP D hl;omega)⟩;go_enter Tryz.func102,Tryz.ntmps102;go_wp2_with fail;go_quiet (fail)
 go_wp2_with fail;go_loopw [3,4,5] (λlv pv bv wr=>∃(D:List ByteArray) (b bg:Nat) (p:Option Nat) (k:Nat),pv=Ig (Z ⟨k,0,Y⟩)/\bv=O J bg/\b<=t.size/\bg<=t.size/\D.length<=8/\Hid (∀l∈D,l.size<=30)/\Hid (ub t b bg D p=M7)/\Hid (Nm g t w lv k b D p wr)) (λlv _ bv _=>(RowKit.intOf bv).toNat*9+(8-lenOf lv))
 case atStart=>exact⟨[],a,a,Y,g,rfl,rfl,ha,ha,by simp,(show ∀_,_ from λl hl=>by cases hl),NY,(⟨HI.out.ext (mf _ _),Rd.ext (mf _ _),o0 _ _,.inl ⟨rfl,rfl⟩,mA⟩:Nm g t w _ g a [] Y _)⟩
 case round=>
  obtain⟨D,b,bg,p,k,rfl,rfl,hb,dN,hD,T4,HR,HN⟩:=hrel;have HP:Hid (Calls be 153 #[Ig (Z ⟨k,0,Y⟩)] wr λe w'=>Hid (Rd k wr w')/\((b<t.size/\e=sh (O .u8 (au t b 1:Nat))/\Hid (dA k t b w'))\/(¬ b<t.size/\e=dC 1))):=T0 k b t wr HN.out.di;go_wp2_with fail;refine HP.out.mono ?_;rintro e w1 ⟨iR,⟨aB,rfl,tV⟩|⟨aB,rfl⟩⟩;rotate_left
  .exact⟨rfl,HN.out.rd2 iR,.inr ⟨HR.out.symm.trans (T1 aB),rfl⟩⟩
  have xX:Hid (Nm g t w _ k b D p w1):=HN.out.call tV iR;clear HN HP tV iR;by_cases h0:au t b 1=0
  .have kA:Hid (M7=Z (D,p.getD (b+1))):=HR.out.symm.trans (NX aB h0)
   have HX:Hid (Calls be 101 #[Ig (Z ⟨k,0,Y⟩),O J 1,O J 0] w1 λe w'=>Hid (Rd k w1 w')/\(((b+1<=t.size/\(au t b 1:Int)=0)/\e=sh (Il #[])/\Hid (dA k t (b+1) w'))\/(¬ (b+1<=t.size/\(au t b 1:Int)=0)/\e=dC 1))):=gM k b 1 0 t w1 xX.out.di hs hb (by omega);rw[h0] at HX ⊢;go_wp2_with fail;refine HX.out.mono ?_;rintro e w2 ⟨kP,⟨_,rfl,uY⟩|⟨iA,rfl⟩⟩;rotate_left
   .exact absurd ⟨by omega,rfl⟩ iA
   have AQ:Hid (Nm g t w _ k (b+1) D p w2):=xX.out.call uY kP;clear uY kP HX xX;go_wp2_with fail;obtain⟨R,hR,NZ⟩:=HJ.out D w2 _ AQ.out.own hD T4.out;have NZ:Hid (Calls be 62 #[_,I ⟨#[46]⟩] w2 λe w'=>e=sh (I R)/\Below w2.heap.size w2 w'):=NZ;have GL:Hid (R=mk (jn (D.map vc))):=hR;clear hR;refine NZ.out.mono ?_;rintro e w3 ⟨rfl,bn⟩;have GM:Hid (Nm g t w _ k (b+1) D p w3):=AQ.out.below bn;clear bn AQ;go_wp2_with fail;go_ret;obtain⟨f1,f2⟩:=GM.out.fin (by omega);exact⟨GM.out.rd,.inl ⟨D,_,kA.out,⟨hD,T4.out⟩,f2,by rw[GL.out];rfl,f1⟩⟩
  .by_cases h192:192<=au t b 1
   .have kA:Hid (M7=if b+2<=t.size/\au t b 2-49152<bg then ub t (au t b 2-49152) (au t b 2-49152) D (Z (p.getD (b+2))) else Y):=HR.out.symm.trans (Kx aB h192)
    have h2:=Ky t b h192;have hm0:((au t b 1:Int)==0)=false:=beq_eq_false_iff_ne.2 (by omega);have mW:¬ (au t b 1:Int)=0:=by omega
    have MS:decide ((192:Int)<=(au t b 1:Int))=true:=by simp;omega
    have HX:Hid (Calls be 99 #[Ig (Z ⟨k,0,Y⟩),O J 2] w1 λe w'=>Hid (Rd k w1 w')/\((b+2<=t.size/\e=sh (O J (au t b 2))/\Hid (dA k t (b+2) w'))\/(¬ b+2<=t.size/\e=dC 1))):=dR k b 2 t w1 xX.out.di hs hb (by omega);clear HR;go_wp2_with fail;refine HX.out.mono ?_;rintro e w2 ⟨kP,⟨hle,rfl,uY⟩|⟨iA,rfl⟩⟩;rotate_left
    .exact⟨rfl,xX.out.rd2 kP,.inr ⟨kA.out.trans (if_neg (λh=>iA h.1)),rfl⟩⟩
    have AQ:Hid (Nm g t w _ k (b+2) D p w2):=xX.out.call uY kP;clear uY kP HX xX;have ct:=AQ.out.text;have dK:=rE t b 2;obtain⟨r,hr⟩:∃r,r=au t b 2-49152:=⟨_,rfl⟩;rw[<- hr] at kA;have Se:IntKind.i64.wrap ((au t b 2:Int)-49152)=(r:Int):=by rw[IN];omega
    clear hr h2 dK;by_cases hrb:r<bg
    .have hd:decide ((r:Int)<(bg:Int))=true:=by simp;omega
     have j8:Hid (ub t r r D (Z (p.getD (b+2)))=M7):=(kA.out.trans (if_pos ⟨hle,hrb⟩)).symm;clear kA;go_wp2_with fail;refine(bZ _ _).mono ?_;rintro e w5 ⟨rfl,uo⟩;subst uo;have GM:Hid (Nm g t w _ w5.heap.size r D (Z (p.getD (b+2))) (w5.alloc (AI #[I t,O J r] 107))):=AQ.out.rest hle;clear AQ;go_wp2_with fail;refine⟨⟨D,r,r,_,w5.heap.size,rfl,rfl,by omega,by omega,hD,T4,j8,GM⟩,?_⟩;simp[RowKit.intOf];omega
    .have hd:decide ((r:Int)<(bg:Int))=false:=by simp;omega
     have j8:Hid (M7=Y):=kA.out.trans (if_neg (λh=>hrb h.2));clear kA;go_wp2_with fail;refine(cQ _ _).mono ?_;rintro e w5 ⟨rfl,uo⟩;subst uo;exact⟨rfl,AQ.out.rd,.inr ⟨j8.out,rfl⟩⟩
   .have kA:Hid (M7=if b+1+au t b 1<=t.size/\aA (wA (t.extract (b+1) (b+1+au t b 1)))=true/\D.length<8 then ub t (b+1+au t b 1) bg (D++[wA (t.extract (b+1) (b+1+au t b 1))]) p else Y):=HR.out.symm.trans (EB aB h0 h192)
    have hm0:((au t b 1:Int)==0)=false:=beq_eq_false_iff_ne.2 (by omega);have mW:¬ (au t b 1:Int)=0:=by omega
    have MS:decide ((192:Int)<=(au t b 1:Int))=false:=by simp;omega
    have HX:Hid (Calls be 155 #[Ig (Z ⟨k,0,Y⟩)] w1 λe w'=>Hid (Rd k w1 w')/\((b+1+au t b 1<=t.size/\e=sh (I (t.extract (b+1) (b+1+au t b 1)))/\Hid (dA k t (b+1+au t b 1) w'))\/(¬ b+1+au t b 1<=t.size/\e=dC 1))):=uZ k b t w1 xX.out.di hs hb;clear HR;generalize hf:au t b 1=f at *;clear hf;go_wp2_with fail;refine HX.out.mono ?_;rintro e w2 ⟨kP,⟨hle,rfl,uY⟩|⟨iA,rfl⟩⟩;rotate_left
    .exact⟨rfl,xX.out.rd2 kP,.inr ⟨kA.out.trans (if_neg (λh=>iA h.1)),rfl⟩⟩
    have AQ:Hid (Nm g t w _ k (b+1+f) D p w2):=xX.out.call uY kP;have hes:=CA t b f hle;generalize t.extract (b+1) (b+1+f)=x at *;clear uY kP HX xX;go_wp2_with fail;refine(Ez x w2 (by omega)).mono ?_;rintro e w3 ⟨rfl,bn⟩;have GM:Hid (Nm g t w _ k (b+1+f) D p w3):=AQ.out.below bn;have hxs:=xV x;generalize wA x=l at *;clear bn AQ;obtain⟨pp,c,hv⟩:=vd GM.out.own;subst hv;have XV:l.size<=Ii:=by unfold Ii;omega
    by_cases hl:aA l=true
    .have XU:=sB hl
     have Cz:Hid (aA l=true):=hl;clear hl;by_cases Ko:D.length<8
     .have hd8:decide ((D.length:Int)<8)=true:=by simp;omega
      have j8:Hid (ub t (b+1+f) bg (D++[l]) p=M7):=(kA.out.trans (if_pos ⟨hle,Cz.out,Ko⟩)).symm;clear kA;go_wp2_with fail;refine(aW l w3 XV).mono ?_;rintro e w4 ⟨rfl,wB⟩;subst wB;rw[Cz.out];go_wp2_with fail;refine(bZ _ _).mono ?_;rintro e w5 ⟨rfl,uo⟩;subst uo;have T5:=GM.out.rd.size;go_wp2_with (at_builtin;refine wpList_append_own_at _ rfl _ _ 111 rfl w.heap.size 9 i0 _ 1 16 Jn eP cE gn ga rfl (by omega) _ D.length (D.map I) rfl ?hown ⟨w5.heap.size,0,Y⟩ 1 1 [I l] rfl rfl ?hnews (nS [_]) ?h63 ?hbytes ?hbase ?_)
      case hown=>exact GM.out.own.below ((Ia _ _).alloc (By _) _)
      case hnews=>(intro j u hj;rw[Addr.add_lit];exact(dF (by simp)).trans (by simpa using hj))
      case h63=>(unfold Ii;omega)
      case hbytes=>omega
      case hbase=>(simp;omega)
      intro v' w6 r1 r2 r3 r4;have HN4:Hid (Nm g t w v' k (b+1+f) (D++[l]) p w6):=(GM.out.below ((Ia _ _).alloc (By _) _)).grown (mY (l:=D) r1) r2 (by simpa using r4);have aeL:Hid (∀x∈D++[l],x.size<=30):=(show ∀_,_ from λx hx=>by
       rcases List.mem_append.1 hx with h|h
       .exact T4.out x h
       .rw[List.mem_singleton.1 h];exact XU.2)
      clear r1 r2 r3 r4 GM T4;go_wp2_with fail;refine⟨⟨D++[l],b+1+f,bg,p,k,rfl,rfl,by omega,dN,by rw[Ij,JB];omega,aeL,j8,HN4⟩,?_⟩;rw[Cw HN4.out.own,show lenOf (U pp D.length c)=D.length from rfl,Ij,JB];omega
     .have hd8:decide ((D.length:Int)<8)=false:=by simp;omega
      have j8:Hid (M7=Y):=kA.out.trans (if_neg (λh=>Ko h.2.2));clear kA;go_wp2_with fail;refine(aW l w3 XV).mono ?_;rintro e w4 ⟨rfl,wB⟩;subst wB;rw[Cz.out];go_wp2_with fail;refine(cQ _ _).mono ?_;rintro e w5 ⟨rfl,uo⟩;subst uo;exact⟨rfl,GM.out.rd,.inr ⟨j8.out,rfl⟩⟩
    .have Cz:Hid (aA l=false):=(show _=_ by simpa using hl)
     have j8:Hid (M7=Y):=kA.out.trans (if_neg (λh=>hl h.2.1));clear kA hl;go_wp2_with fail;refine(aW l w3 XV).mono ?_;rintro e w4 ⟨rfl,wB⟩;subst wB;rw[Cz.out];go_wp2_with fail;refine(cQ _ _).mono ?_;rintro e w5 ⟨rfl,uo⟩;subst uo;exact⟨rfl,GM.out.rd,.inr ⟨j8.out,rfl⟩⟩
structure St(g:Nat)(t:ByteArray)(w:World)(T:I8)(zs:Array Value)(a:Nat)(cs:Array Value)(W:World):Prop where
 di:dA g t a W
 rd:Rd g w W
 qx:W.heap[w.heap.size]?=Z (AI zs T (0,0))
 bx:W.heap[w.heap.size+1]?=Z (AI cs T (0,0))
 lt:g<w.heap.size
theorem St.call{g a b:Nat}{t:ByteArray}{w W W':World}{T:I8}{zs cs:Array Value}(h:St g t w T zs a cs W)(h1:Hid (dA g t b W'))(h2:Hid (Rd g W W')):St g t w T zs b cs W':=
 ⟨h1.out,h.rd.trans h2.out,(h2.out.block _ (Ib.1 h.qx).1 (by have:=h.lt;omega)).trans h.qx,(h2.out.block _ (Ib.1 h.bx).1 (by have:=h.lt;omega)).trans h.bx,h.lt⟩
theorem St.keep{g a:Nat}{t:ByteArray}{w W W':World}{T:I8}{zs cs:Array Value}(h:St g t w T zs a cs W)(h1:W.Extends W'):St g t w T zs a cs W':=
 h.call (h.di.ext h1) (Rd.ext h1:Rd g W W')
theorem St.store{g a:Nat}{t:ByteArray}{w W:World}{T:I8}{zs cs:Array Value}(h:St g t w T zs a cs W)(i:Nat)(v:Value):St g t w T zs a (cs.setIfInBounds i v) (W.setCell ⟨w.heap.size+1,i,Y⟩ v) where
 di:=⟨(JC _ _ _ _ (by have:=h.lt;intro e;simp at e)).trans h.di.c0,(JC _ _ _ _ (by have:=h.lt;intro e;simp at e)).trans h.di.c1,by simpa using h.di.hz,by simpa using h.di.hg⟩
 rd:=⟨h.rd.os,h.rd.tape,h.rd.output,by simpa using h.rd.size,λk hk hg=>(IH W _ v k (by simp;omega)).trans (h.rd.block k hk hg)⟩
 qx:=(IH W _ v _ (by simp)).trans h.qx
 bx:=Joins.block_setCell h.bx v
 lt:=h.lt
theorem St.cell{g a:Nat}{t:ByteArray}{w W:World}{T:I8}{zs cs:Array Value}(h:St g t w T zs a cs W)(i:Nat):W.cell? ⟨w.heap.size+1,i,Y⟩=cs[i]?:=af h.bx i
theorem St.free{g a:Nat}{t:ByteArray}{w W:World}{T:I8}{zs cs:Array Value}(h:St g t w T zs a cs W)(i:Nat):W.frozen? ⟨w.heap.size+1,i,Y⟩=false:=by simp[Ih,h.bx]
theorem St.fh{g a:Nat}{t:ByteArray}{w W:World}{T:I8}{zs cs:Array Value}(h:St g t w T zs a cs W)(i:Nat):W.cell? ⟨w.heap.size,i,Y⟩=zs[i]?:=af h.qx i
theorem St.fi{g a:Nat}{t:ByteArray}{w W:World}{T:I8}{zs cs:Array Value}(h:St g t w T zs a cs W)(i:Nat):W.frozen? ⟨w.heap.size,i,Y⟩=false:=by simp[Ih,h.qx]
theorem Rd.put{g b:Nat}{w W:World}(h:Rd g w W)(i:Nat)(v:Value)(hb:w.heap.size<=b):Rd g w (W.setCell ⟨b,i,Y⟩ v):=
 ⟨h.os,h.tape,h.output,by simpa using h.size,λk hk hg=>(IH W _ v k (by simp;omega)).trans (h.block k hk hg)⟩
abbrev aJ:Array Value:=#[O J 0,AT false,AT false,O J 0,I ⟨#[]⟩,O J 0,U Y 0 0]
theorem uq(g id code al p:Nat)(ls:List ByteArray)(t:ByteArray)(w:World)(h:dA g t 0 w)(hs:t.size<=1000)(e0:au t 0 2=id)(e2:au t 2 1=0)(e3:au t 3 1=code)(e4:au t 4 2=1)(e6:au t 6 2=0)(e8:au t 8 2=0)(e10:au t 10 2=0)(rX:sA t 12 ls)(j7:∀l∈ls,aA l=true)(hn:ls.length<=8)(hz:(jn (ls.map vc)).length<=100000)(hp:behind 12 ls+1=p)(ep:au t p 2=al)(eq:au t (p+2) 2=1)(h12:12<=p)(bb:p+4=t.size) :
 Calls be 52 #[Ig (Z ⟨g,0,Y⟩)] w λe w'=>e=sh (qQ id code al false false (mk (jn (ls.map vc))))/\Hid (Rd g w w'):=by
 have HN:Hid (∀W,dA g t 12 W->Calls be 102 #[Ig (Z ⟨g,0,Y⟩)] W λe w'=>e=sh (I (mk (jn (ls.map vc))))/\Hid (dA g t p w')/\Hid (Rd g W w')):=λW hW=>by
  subst hp;exact Cy g 12 ls t W hW hs rX j7 hn hz
 have HI:Hid (dA g t 0 w):=h;have hg:=h.hg;have E0:Hid (au t 0 2=id):=e0;have E2:Hid (au t 2 1=0):=e2;have E3:Hid (au t 3 1=code):=e3;have E4:Hid (au t 4 2=1):=e4;have E6:Hid (au t 6 2=0):=e6;have E8:Hid (au t 8 2=0):=e8;have E10:Hid (au t 10 2=0):=e10;have EP:Hid (au t p 2=al):=ep;have EQ:Hid (au t (p+2) 2=1):=eq;have HZ:Hid (p+4=t.size):=bb;have hZ:p+4<=t.size:=Nat.le_of_eq bb;clear h e0 e2 e3 e4 e6 e8 e10 ep eq rX j7 hn hz hp bb;generalize mk (jn (ls.map vc))=R at *;go_enter Tryz.func52,Tryz.ntmps52;go_wp2_with fail;obtain⟨w0,du⟩:∃w0,w0=(w.alloc (AI aJ 43)).alloc (AI aJ 43):=⟨_,rfl⟩;rw[<- du];have S0:Hid (St g t w 43 aJ 0 aJ w0):=(show St _ _ _ _ _ _ _ _ by
  have hx:w.Extends w0:=by rw[du];exact((IB w).alloc _).alloc _
  refine⟨HI.out.ext hx,Rd.ext hx,?_,?_,hg⟩
  .rw[du]
   exact(Lib.alloc_old _ _ _ (by simp)).trans (Ie w _)
  .rw[du]
   have:=Ie (w.alloc (AI aJ 43)) (AI aJ 43);simpa using this)
 clear du;refine(cY g 0 2 t w0 S0.out.di hs (by omega) (by omega)).mono ?_;rintro e w1 ⟨rfl,h1,h2⟩;rw[E0.out];have S1:Hid (St g t w 43 aJ 2 aJ w1):=S0.out.call h1 h2;have z1:=S1.out.free 0;have c1:w1.cell? ⟨w.heap.size+1,0,Y⟩=Z (O J 0):=S1.out.cell 0;clear h1 h2 S0;go_wp2_with fail;have S2:Hid (St g t w 43 aJ 2 #[O J id,AT false,AT false,O J 0,I ⟨#[]⟩,O J 0,U Y 0 0] (w1.setCell ⟨w.heap.size+1,0,Y⟩ (O J id))):=S1.out.store 0 (O J id);refine(cY g 2 1 t _ S2.out.di hs (by omega) (by omega)).mono ?_;rintro e w2 ⟨rfl,h1,h2⟩;rw[E2.out];have S3:Hid (St g t w 43 aJ 3 #[O J id,AT false,AT false,O J 0,I ⟨#[]⟩,O J 0,U Y 0 0] w2):=S2.out.call h1 h2;have z1:=S3.out.free 1;have z2:=S3.out.free 2;have c0:w2.cell? ⟨w.heap.size+1,0,Y⟩=Z (O J id):=S3.out.cell 0;have c1:w2.cell? ⟨w.heap.size+1,1,Y⟩=Z (AT false):=S3.out.cell 1;have c2:w2.cell? ⟨w.heap.size+1,2,Y⟩=Z (AT false):=S3.out.cell 2;have c3:w2.cell? ⟨w.heap.size+1,3,Y⟩=Z (O J 0):=S3.out.cell 3;have c4:w2.cell? ⟨w.heap.size+1,4,Y⟩=Z (I ⟨#[]⟩):=S3.out.cell 4;have c5:w2.cell? ⟨w.heap.size+1,5,Y⟩=Z (O J 0):=S3.out.cell 5;have c6:w2.cell? ⟨w.heap.size+1,6,Y⟩=Z (U Y 0 0):=S3.out.cell 6;have an:bits .and J 0 128=0:=by decide
 have aD:bits .and J 0 2=0:=by decide
 clear h1 h2 S1 S2;go_wp2_with fail;have S4:Hid (St g t w 43 aJ 3 #[O J id,AT false,AT false,O J 0,I ⟨#[]⟩,O J 0,U Y 0 0] ((w2.setCell ⟨w.heap.size+1,1,Y⟩ (AT false)).setCell ⟨w.heap.size+1,2,Y⟩ (AT false))):=(S3.out.store 1 (AT false)).store 2 (AT false);refine(ma id 0 0 false false ⟨#[]⟩ _).mono ?_;rintro e w3 ⟨rfl,o,xu⟩;rw[show o7 false false=0 from rfl];have S5:Hid (St g t w 43 aJ 3 #[O J id,AT false,AT false,O J 0,I ⟨#[]⟩,O J 0,U Y 0 0] w3):=(show St _ _ _ _ _ _ _ _ by rw[xu];exact S4.out.keep ((IB _).alloc _));clear xu z1 z2 c0 c1 c2 c3 c4 c5 c6 S3 S4;go_wp2_with fail;refine(bZ _ _).mono ?_;rintro e w4 ⟨rfl,wB⟩;subst wB;go_wp2_with fail;refine(cY g 3 1 t _ S5.out.di hs (by omega) (by omega)).mono ?_;rintro e w5 ⟨rfl,h1,h2⟩;rw[E3.out];have S6:Hid (St g t w 43 aJ 4 #[O J id,AT false,AT false,O J 0,I ⟨#[]⟩,O J 0,U Y 0 0] w5):=S5.out.call h1 h2;have z3:=S6.out.free 3;have c3:w5.cell? ⟨w.heap.size+1,3,Y⟩=Z (O J 0):=S6.out.cell 3;clear h1 h2 S5;go_wp2_with fail;have S7:Hid (St g t w 43 aJ 4 #[O J id,AT false,AT false,O J code,I ⟨#[]⟩,O J 0,U Y 0 0] (w5.setCell ⟨w.heap.size+1,3,Y⟩ (O J code))):=S6.out.store 3 (O J code);refine(ev g 4 2 1 t _ S7.out.di hs (by omega) (by omega) E4.out).mono ?_;rintro e w6 ⟨rfl,h1,h2⟩;have S8:Hid (St g t w 43 aJ 6 #[O J id,AT false,AT false,O J code,I ⟨#[]⟩,O J 0,U Y 0 0] w6):=S7.out.call h1 h2;clear h1 h2 S6 S7 z3 c3;go_wp2_with fail;refine(cY g 6 2 t _ S8.out.di hs (by omega) (by omega)).mono ?_;rintro e w7 ⟨rfl,h1,h2⟩;rw[E6.out];have S9:Hid (St g t w 43 aJ 8 #[O J id,AT false,AT false,O J code,I ⟨#[]⟩,O J 0,U Y 0 0] w7):=S8.out.call h1 h2;clear h1 h2 S8;go_wp2_with fail;refine(ev g 8 2 0 t _ S9.out.di hs (by omega) (by omega) E8.out).mono ?_;rintro e w8 ⟨rfl,h1,h2⟩;have SA:Hid (St g t w 43 aJ 10 #[O J id,AT false,AT false,O J code,I ⟨#[]⟩,O J 0,U Y 0 0] w8):=S9.out.call h1 h2;clear h1 h2 S9;go_wp2_with fail;refine(ev g 10 2 0 t _ SA.out.di hs (by omega) (by omega) E10.out).mono ?_;rintro e w9 ⟨rfl,h1,h2⟩;have SB:Hid (St g t w 43 aJ 12 #[O J id,AT false,AT false,O J code,I ⟨#[]⟩,O J 0,U Y 0 0] w9):=SA.out.call h1 h2;clear h1 h2 SA;go_wp2_with fail;refine(HN.out _ SB.out.di).mono ?_;rintro e wa ⟨rfl,h1,h2⟩;have SC:Hid (St g t w 43 aJ p #[O J id,AT false,AT false,O J code,I ⟨#[]⟩,O J 0,U Y 0 0] wa):=SB.out.call h1 h2;have z4:=SC.out.free 4;have c4:wa.cell? ⟨w.heap.size+1,4,Y⟩=Z (I ⟨#[]⟩):=SC.out.cell 4;clear h1 h2 SB;go_wp2_with fail;have SD:Hid (St g t w 43 aJ p #[O J id,AT false,AT false,O J code,I R,O J 0,U Y 0 0] (wa.setCell ⟨w.heap.size+1,4,Y⟩ (I R))):=SC.out.store 4 (I R);refine(cY g p 2 t _ SD.out.di hs (by omega) (by omega)).mono ?_;rintro e wb ⟨rfl,h1,h2⟩;rw[EP.out];have SE:Hid (St g t w 43 aJ (p+2) #[O J id,AT false,AT false,O J code,I R,O J 0,U Y 0 0] wb):=SD.out.call h1 h2;have z5:=SE.out.free 5;have c5:wb.cell? ⟨w.heap.size+1,5,Y⟩=Z (O J 0):=SE.out.cell 5;clear h1 h2 SC SD z4 c4;go_wp2_with fail;have SF:Hid (St g t w 43 aJ (p+2) #[O J id,AT false,AT false,O J code,I R,O J al,U Y 0 0] (wb.setCell ⟨w.heap.size+1,5,Y⟩ (O J al))):=SE.out.store 5 (O J al);refine(ev g (p+2) 2 1 t _ SF.out.di hs (by omega) (by omega) EQ.out).mono ?_;rintro e wc ⟨rfl,h1,h2⟩;have SG:Hid (St g t w 43 aJ (p+4) #[O J id,AT false,AT false,O J code,I R,O J al,U Y 0 0] wc):=SF.out.call h1 h2;have ct:wc.cell? ⟨g,0,Y⟩=Z (I t):=SG.out.di.c0;have ca:wc.cell? ⟨g,1,Y⟩=Z (O J t.size):=(show wc.cell? ⟨g,1,Y⟩=Z (O J t.size) by
  rw[<- HZ.out];exact SG.out.di.c1)
 clear h1 h2 SE SF z5 c5;go_wp2_with fail;have m0:wc.cell? ⟨w.heap.size+1,0,Y⟩=Z (O J id):=SG.out.cell 0;have m1:wc.cell? ⟨w.heap.size+1,1,Y⟩=Z (AT false):=SG.out.cell 1;have m2:wc.cell? ⟨w.heap.size+1,2,Y⟩=Z (AT false):=SG.out.cell 2;have m3:wc.cell? ⟨w.heap.size+1,3,Y⟩=Z (O J code):=SG.out.cell 3;have m4:wc.cell? ⟨w.heap.size+1,4,Y⟩=Z (I R):=SG.out.cell 4;have m5:wc.cell? ⟨w.heap.size+1,5,Y⟩=Z (O J al):=SG.out.cell 5;have m6:wc.cell? ⟨w.heap.size+1,6,Y⟩=Z (U Y 0 0):=SG.out.cell 6;have q0:wc.cell? ⟨w.heap.size,0,Y⟩=Z (O J 0):=SG.out.fh 0;have y0:=SG.out.fi 0;have q1:wc.cell? ⟨w.heap.size,1,Y⟩=Z (AT false):=SG.out.fh 1;have y1:=SG.out.fi 1;have q2:wc.cell? ⟨w.heap.size,2,Y⟩=Z (AT false):=SG.out.fh 2;have y2:=SG.out.fi 2;have q3:wc.cell? ⟨w.heap.size,3,Y⟩=Z (O J 0):=SG.out.fh 3;have y3:=SG.out.fi 3;have q4:wc.cell? ⟨w.heap.size,4,Y⟩=Z (I ⟨#[]⟩):=SG.out.fh 4;have y4:=SG.out.fi 4;have q5:wc.cell? ⟨w.heap.size,5,Y⟩=Z (O J 0):=SG.out.fh 5;have y5:=SG.out.fi 5;have q6:wc.cell? ⟨w.heap.size,6,Y⟩=Z (U Y 0 0):=SG.out.fh 6;have y6:=SG.out.fi 6;go_loopw [46] (λi wr=>i=O J 0/\wr=wc) (λ_ _=>0)
 case atStart=>exact⟨rfl,rfl⟩
 case round=>
  obtain⟨rfl,Se⟩:=hrel;subst Se;go_wp2_with fail;go_region_held3 (λw'=>w'.cell? ⟨g,0,Y⟩=Z (I t)/\w'.cell? ⟨g,1,Y⟩=Z (O J t.size)) (go_keep) (first|(go_at_call 69;refine(bZ _ _).mono ?_;rintro e w5 ⟨rfl,rfl⟩)|fail)
  go_wp2_with fail;refine bodyPost_ret (v:=qQ id code al false false R) ?_ rfl ⟨rfl,?_⟩
  .simp[results,Tryz.results52,go_sem,q0,q1,q2,q3,q4,q5,q6]
  .exact(Rd.trans (((((((SG.out.rd.put 0 _ (By _)).put 1 _ (By _)).put 2 _ (By _)).put 3 _ (By _)).put 4 _ (By _)).put 5 _ (By _)).put 6 _ (By _)) (Rd.ext (IB _).drew):Rd g w _)
end Go.Proofs.YtfidjlcdlakceaaGreatDoor
