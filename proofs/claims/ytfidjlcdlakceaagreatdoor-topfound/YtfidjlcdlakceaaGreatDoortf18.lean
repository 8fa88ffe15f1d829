import Derived.Test.YtfidjlcdlakceaaGreatDoortf6
import Derived.Test.YtfidjlcdlakceaaGreatDoortf16
set_option maxHeartbeats 1600000
set_option maxRecDepth 100000
open Go.Value renaming string→I,int→O,pointer→If
open Go.IntKind renaming i64→J,wrap_i64→IK,wrap_u8→QR
open Option renaming none→Y,some→Z
open Go.Proofs.Tryz renaming prog→be,underlying9→IE,underlying127→JQ,underlying5→Js
open Go renaming wp_region_held_drew→Ui,wpAnyH_take→I4
open Or renaming inl→JM
open Nat renaming le_refl→By,lt_of_lt_of_le→Iv,le_trans→Ir
open Go.Ending renaming returned→sh
open List renaming getD_eq_getElem?_getD→Qn,getElem?_eq_getElem→Ic,length_append→Ii,length_singleton→JB
open Go.Lib renaming bytesWorld→Of
open Go.World renaming frozen?→Ig,cell?_of_block→Ol
namespace Go.Proofs.YtfidjlcdlakceaaGreatDoor
open Go.RowKit
theorem Fk(g a n:Nat)(t:ByteArray)(w:World)(c0:w.cell? ⟨g,0,Y⟩=Z (I t))(c1:w.cell? ⟨g,1,Y⟩=Z (O J a))(hs:t.size<=1000)(ha:a<=t.size)(lW:¬ a+n<=t.size) :
 Calls be 152 #[If (Z ⟨g,0,Y⟩),O J n] w λe w'=>e=dW 1/\∃m,w'=w.drewN m:=by
 have h1:IntKind.i64.wrap ((t.size:Int)-(a:Int))=(t.size:Int)-(a:Int):=by rw[IK];omega
 have h2:decide ((n:Int)<=(t.size:Int)-(a:Int))=false:=by simp;omega
 go_enter Tryz.func152,Tryz.ntmps152;go_wp2_with fail;refine Ui (S:=λW=>W.cell? ⟨g,0,Y⟩=Z (I t)/\W.cell? ⟨g,1,Y⟩=Z (O J a)) (by kernel_rfl) ⟨c0,c1⟩ (λrJ=>?_);refine I4 (i:=0) (v:=?v0) rfl (by kernel_rfl) (by kernel_rfl) (by kernel_rfl) (λ_ _ _ h=>h) (JM ⟨by rfl,?hy0⟩) (by assumption) ?_
 case hy0=>(intro W eH;obtain⟨d0,d1⟩:=eH;go_simp;try with_reducible rfl)
 refine I4 (i:=1) (v:=?v1) rfl (by kernel_rfl) (by kernel_rfl) (by kernel_rfl) (λ_ _ _ h=>h) (JM ⟨by rfl,?hy1⟩) (by assumption) ?_
 case hy1=>(intro W eH;obtain⟨d0,d1⟩:=eH;go_simp;try with_reducible rfl)
 refine I4 (i:=2) (v:=?v2) rfl (by kernel_rfl) (by kernel_rfl) (by kernel_rfl) (λ_ _ _ h=>h) (JM ⟨by rfl,?hy2⟩) (by assumption) ?_
 case hy2=>(intro W eH;obtain⟨d0,d1⟩:=eH;go_simp;try with_reducible rfl)
 refine I4 (i:=3) (v:=?v3) rfl (by kernel_rfl) (by kernel_rfl) (by kernel_rfl) (λ_ _ _ h=>h) (JM ⟨by rfl,?hy3⟩) (by assumption) ?_
 case hy3=>(intro W eH;obtain⟨d0,d1⟩:=eH;go_simp;try with_reducible rfl)
 refine I4 (i:=4) (v:=?v4) rfl (by kernel_rfl) (by kernel_rfl) (by kernel_rfl) (λ_ _ _ h=>h) (JM ⟨by rfl,?hy4⟩) (by assumption) ?_
 case hy4=>(intro W eH;obtain⟨d0,d1⟩:=eH;go_simp;try with_reducible rfl)
 refine I4 (i:=5) (v:=?v5) rfl (by kernel_rfl) (by kernel_rfl) (by kernel_rfl) (λ_ _ _ h=>h) (JM ⟨by rfl,?hy5⟩) (by assumption) ?_
 case hy5=>(intro W eH;obtain⟨d0,d1⟩:=eH;go_simp;try with_reducible rfl)
 refine I4 (i:=6) (v:=?v6) rfl (by kernel_rfl) (by kernel_rfl) (by kernel_rfl) (λ_ _ _ h=>h) (JM ⟨by rfl,?hy6⟩) (by assumption) ?_
 case hy6=>(intro W eH;obtain⟨d0,d1⟩:=eH;go_simp;try with_reducible rfl)
 refine I4 (i:=7) (v:=?v7) rfl (by kernel_rfl) (by kernel_rfl) (by kernel_rfl) (λ_ _ _ h=>h) (JM ⟨by rfl,?hy7⟩) (by assumption) ?_
 case hy7=>(intro W eH;obtain⟨d0,d1⟩:=eH;go_simp;try with_reducible rfl)
 refine I4 (i:=8) (v:=?v8) rfl (by kernel_rfl) (by kernel_rfl) (by kernel_rfl) (λ_ _ _ h=>h) (JM ⟨by rfl,?hy8⟩) (by assumption) ?_
 case hy8=>(intro W eH;obtain⟨d0,d1⟩:=eH;go_simp;try with_reducible rfl)
 refine I4 (i:=9) (v:=?v9) rfl (by kernel_rfl) (by kernel_rfl) (by kernel_rfl) (λ_ _ _ h=>h) (JM ⟨by rfl,?hy9⟩) (by assumption) ?_
 case hy9=>(intro W eH;obtain⟨d0,d1⟩:=eH;go_simp;try with_reducible rfl)
 refine I4 (i:=10) (v:=?v10) rfl (by kernel_rfl) (by kernel_rfl) (by kernel_rfl) (λ_ _ _ h=>h) (JM ⟨by rfl,?hy10⟩) (by assumption) ?_
 case hy10=>(intro W eH;obtain⟨d0,d1⟩:=eH;go_simp;try with_reducible rfl)
 refine I4 (i:=11) (v:=?v11) rfl (by kernel_rfl) (by kernel_rfl) (by kernel_rfl) (λ_ _ _ h=>h) (JM ⟨by rfl,?hy11⟩) (by assumption) ?_
 case hy11=>(intro W eH;obtain⟨d0,d1⟩:=eH;go_simp;try with_reducible rfl)
 refine wpAnyH_ready (rs:=[12]) (by kernel_rfl) (by simp) ?_;refine AllReadyH.cons rfl (λK hK=>?_) AllReadyH.nil;go_simp;refine(dd _ _).mono ?_;rintro e w5 ⟨rfl,rfl⟩;exact⟨rfl,rfl,1,rfl⟩
theorem TP(g a:Nat)(t:ByteArray)(w:World)(c0:w.cell? ⟨g,0,Y⟩=Z (I t))(c1:w.cell? ⟨g,1,Y⟩=Z (O J a))(ha:¬ a<t.size) :
 Calls be 153 #[If (Z ⟨g,0,Y⟩)] w λe w'=>e=dW 1/\∃m,w'=w.drewN m:=by
 have h2:decide ((a:Int)<(t.size:Int))=false:=by simp;omega
 go_enter Tryz.func153,Tryz.ntmps153;go_wp2_with fail;refine Ui (S:=λW=>W.cell? ⟨g,0,Y⟩=Z (I t)/\W.cell? ⟨g,1,Y⟩=Z (O J a)) (by kernel_rfl) ⟨c0,c1⟩ (λrJ=>?_);refine I4 (i:=0) (v:=?v0) rfl (by kernel_rfl) (by kernel_rfl) (by kernel_rfl) (λ_ _ _ h=>h) (JM ⟨by rfl,?hy0⟩) (by assumption) ?_
 case hy0=>(intro W eH;obtain⟨d0,d1⟩:=eH;go_simp;try with_reducible rfl)
 refine I4 (i:=1) (v:=?v1) rfl (by kernel_rfl) (by kernel_rfl) (by kernel_rfl) (λ_ _ _ h=>h) (JM ⟨by rfl,?hy1⟩) (by assumption) ?_
 case hy1=>(intro W eH;obtain⟨d0,d1⟩:=eH;go_simp;try with_reducible rfl)
 refine I4 (i:=2) (v:=?v2) rfl (by kernel_rfl) (by kernel_rfl) (by kernel_rfl) (λ_ _ _ h=>h) (JM ⟨by rfl,?hy2⟩) (by assumption) ?_
 case hy2=>(intro W eH;obtain⟨d0,d1⟩:=eH;go_simp;try with_reducible rfl)
 refine I4 (i:=3) (v:=?v3) rfl (by kernel_rfl) (by kernel_rfl) (by kernel_rfl) (λ_ _ _ h=>h) (JM ⟨by rfl,?hy3⟩) (by assumption) ?_
 case hy3=>(intro W eH;obtain⟨d0,d1⟩:=eH;go_simp;try with_reducible rfl)
 refine I4 (i:=4) (v:=?v4) rfl (by kernel_rfl) (by kernel_rfl) (by kernel_rfl) (λ_ _ _ h=>h) (JM ⟨by rfl,?hy4⟩) (by assumption) ?_
 case hy4=>(intro W eH;obtain⟨d0,d1⟩:=eH;go_simp;try with_reducible rfl)
 refine I4 (i:=5) (v:=?v5) rfl (by kernel_rfl) (by kernel_rfl) (by kernel_rfl) (λ_ _ _ h=>h) (JM ⟨by rfl,?hy5⟩) (by assumption) ?_
 case hy5=>(intro W eH;obtain⟨d0,d1⟩:=eH;go_simp;try with_reducible rfl)
 refine I4 (i:=6) (v:=?v6) rfl (by kernel_rfl) (by kernel_rfl) (by kernel_rfl) (λ_ _ _ h=>h) (JM ⟨by rfl,?hy6⟩) (by assumption) ?_
 case hy6=>(intro W eH;obtain⟨d0,d1⟩:=eH;go_simp;try with_reducible rfl)
 refine I4 (i:=7) (v:=?v7) rfl (by kernel_rfl) (by kernel_rfl) (by kernel_rfl) (λ_ _ _ h=>h) (JM ⟨by rfl,?hy7⟩) (by assumption) ?_
 case hy7=>(intro W eH;obtain⟨d0,d1⟩:=eH;go_simp;try with_reducible rfl)
 refine I4 (i:=8) (v:=?v8) rfl (by kernel_rfl) (by kernel_rfl) (by kernel_rfl) (λ_ _ _ h=>h) (JM ⟨by rfl,?hy8⟩) (by assumption) ?_
 case hy8=>(intro W eH;obtain⟨d0,d1⟩:=eH;go_simp;try with_reducible rfl)
 refine I4 (i:=9) (v:=?v9) rfl (by kernel_rfl) (by kernel_rfl) (by kernel_rfl) (λ_ _ _ h=>h) (JM ⟨by rfl,?hy9⟩) (by assumption) ?_
 case hy9=>(intro W eH;obtain⟨d0,d1⟩:=eH;go_simp;try with_reducible rfl)
 refine wpAnyH_ready (rs:=[10]) (by kernel_rfl) (by simp) ?_;refine AllReadyH.cons rfl (λK hK=>?_) AllReadyH.nil;go_simp;refine(dd _ _).mono ?_;rintro e w5 ⟨rfl,rfl⟩;exact⟨rfl,rfl,1,rfl⟩
theorem pj(g:Nat)(w:World)(m:Nat):Rd g w (w.drewN m):=Rd.ext ⟨rfl,rfl,rfl,By _,λ_ _=>rfl,λ_ _=>rfl,λ_ _=>rfl⟩
theorem Ha(g a n:Nat)(t:ByteArray)(w:World)(h:dR g t a w)(hs:t.size<=1000)(ha:a<=t.size)(lW:¬ a+n<=t.size) :
 Calls be 99 #[If (Z ⟨g,0,Y⟩),O J n] w λe w'=>e=dW 1/\Hid (Rd g w w'):=by
 have HT:Hid (Calls be 152 #[If (Z ⟨g,0,Y⟩),O J n] w λe w'=>e=dW 1/\∃m,w'=w.drewN m):=Fk g a n t w h.c0 h.c1 hs ha lW;clear h;go_enter Tryz.func99,Tryz.ntmps99;go_wp2_with fail;refine HT.out.mono ?_;rintro e w1 ⟨rfl,m,rfl⟩;exact⟨rfl,rfl,pj g w m⟩
theorem ew(g a n:Nat)(t:ByteArray)(w:World)(h:dR g t a w)(hs:t.size<=1000)(ha:a<=t.size)(hn:n<=4) :
 Calls be 99 #[If (Z ⟨g,0,Y⟩),O J n] w λe w'=>Hid (Rd g w w')/\((a+n<=t.size/\e=sh (O J (ax t a n))/\Hid (dR g t (a+n) w'))\/(¬ a+n<=t.size/\e=dW 1)):=by
 by_cases lW:a+n<=t.size
 .refine(dw g a n t w h hs lW hn).mono ?_
  rintro e w' ⟨rfl,h1,h2⟩;exact⟨h2,.inl ⟨lW,rfl,h1⟩⟩
 .refine(Ha g a n t w h hs ha lW).mono ?_
  rintro e w' ⟨rfl,h2⟩;exact⟨h2,.inr ⟨lW,rfl⟩⟩
theorem aai(g a:Nat)(t:ByteArray)(w:World)(h:dR g t a w) :
 Calls be 153 #[If (Z ⟨g,0,Y⟩)] w λe w'=>Hid (Rd g w w')/\((a<t.size/\e=sh (O .u8 (ax t a 1:Nat))/\Hid (dR g t a w'))\/(¬ a<t.size/\e=dW 1)):=by
 by_cases lW:a<t.size
 .refine(Dp g a t w h lW).mono ?_
  rintro e w' ⟨rfl,h1,h2⟩;exact⟨h2,.inl ⟨lW,rfl,h1⟩⟩
 .refine(TP g a t w h.c0 h.c1 lW).mono ?_
  rintro e w' ⟨rfl,m,rfl⟩;exact⟨pj g w m,.inr ⟨lW,rfl⟩⟩
theorem ik(g a n:Nat)(x:Int)(t:ByteArray)(w:World)(h:dR g t a w)(hs:t.size<=1000)(ha:a<=t.size)(hn:n<=4) :
 Calls be 101 #[If (Z ⟨g,0,Y⟩),O J n,O J x] w λe w'=>Hid (Rd g w w')/\(((a+n<=t.size/\(ax t a n:Int)=x)/\e=sh (.tuple #[])/\Hid (dR g t (a+n) w'))\/(¬ (a+n<=t.size/\(ax t a n:Int)=x)/\e=dW 1)):=by
 have HT:Hid (Calls be 99 #[If (Z ⟨g,0,Y⟩),O J n] w λe w'=>Hid (Rd g w w')/\((a+n<=t.size/\e=sh (O J (ax t a n))/\Hid (dR g t (a+n) w'))\/(¬ a+n<=t.size/\e=dW 1))):=ew g a n t w h hs ha hn;clear h;go_enter Tryz.func101,Tryz.ntmps101;go_wp2_with fail;refine HT.out.mono ?_;rintro e w1 ⟨HD,⟨lW,rfl,HI⟩|⟨lW,rfl⟩⟩
 .by_cases hx:(ax t a n:Int)=x
  .have hb:((ax t a n:Int)==x)=true:=by simpa using hx
   have HX:Hid ((ax t a n:Int)=x):=hx;clear hx;go_wp2_with fail;refine(cy _ _).mono ?_;rintro e w5 ⟨rfl,rfl⟩;go_wp2_with fail;simp[bodyPost,results,Tryz.results101];exact⟨HD,.inl ⟨⟨lW,HX.out⟩,HI⟩⟩
  .have hb:((ax t a n:Int)==x)=false:=by simpa using hx
   have HX:Hid (¬ (ax t a n:Int)=x):=hx;clear hx;go_wp2_with fail;refine(dd _ _).mono ?_;rintro e w5 ⟨rfl,rfl⟩;exact⟨rfl,HD,.inr ⟨λh=>HX.out h.2,rfl⟩⟩
 .exact⟨rfl,HD,.inr ⟨λh=>lW h.1,rfl⟩⟩
theorem Dq(g a:Nat)(t:ByteArray)(w:World)(h:dR g t a w)(hs:t.size<=1000)(ha:a<=t.size)(lW:¬ a+1+ax t a 1<=t.size) :
 Calls be 155 #[If (Z ⟨g,0,Y⟩)] w λe w'=>e=dW 1/\Hid (Rd g w w'):=by
 have HT:Hid (Calls be 99 #[If (Z ⟨g,0,Y⟩),O J 1] w λe w'=>Hid (Rd g w w')/\((a+1<=t.size/\e=sh (O J (ax t a 1))/\Hid (dR g t (a+1) w'))\/(¬ a+1<=t.size/\e=dW 1))):=ew g a 1 t w h hs ha (by omega);clear h;go_enter Tryz.func155,Tryz.ntmps155;go_wp2_with fail;refine HT.out.mono ?_;rintro e w1 ⟨HD,⟨h1,rfl,HI⟩|⟨h1,rfl⟩⟩
 .have si:Hid (Calls be 152 #[If (Z ⟨g,0,Y⟩),O J (ax t a 1:Nat)] w1 λe w'=>e=dW 1/\∃m,w'=w1.drewN m):=Fk g (a+1) (ax t a 1) t w1 HI.out.c0 HI.out.c1 hs h1 lW
  go_wp2_with fail;refine si.out.mono ?_;rintro e w2 ⟨rfl,m,rfl⟩;exact⟨rfl,rfl,HD.out.trans (pj g w1 m)⟩
 .exact⟨rfl,rfl,HD⟩
theorem xy(g a:Nat)(t:ByteArray)(w:World)(h:dR g t a w)(hs:t.size<=1000)(ha:a<=t.size) :
 Calls be 155 #[If (Z ⟨g,0,Y⟩)] w λe w'=>Hid (Rd g w w')/\((a+1+ax t a 1<=t.size/\e=sh (I (t.extract (a+1) (a+1+ax t a 1)))/\Hid (dR g t (a+1+ax t a 1) w'))\/(¬ a+1+ax t a 1<=t.size/\e=dW 1)):=by
 by_cases lW:a+1+ax t a 1<=t.size
 .refine(qG g a _ t _ w h hs rfl lW rfl).mono ?_
  rintro e w' ⟨rfl,h1,h2⟩;exact⟨h2,.inl ⟨lW,rfl,h1⟩⟩
 .refine(Dq g a t w h hs ha lW).mono ?_
  rintro e w' ⟨rfl,h2⟩;exact⟨h2,.inr ⟨lW,rfl⟩⟩
def lwb(c:UInt8):UInt8:=if 65<=c.toNat/\c.toNat<=90 then(c.toNat+32).toUInt8 else c
def yH(s:ByteArray):ByteArray:=mk (s.data.toList.map lwb)
theorem AK(s:ByteArray):(yH s).size=s.size:=by unfold yH;rw[gZ];simp
def k8(s:ByteArray)(k j:Nat):Nat:=if j<k then(lwb (s.data.toList.getD j 0)).toNat else(s.data.toList.getD j 0).toNat
theorem NI(s:ByteArray)(j:Nat)(hj:j<s.size):k8 s s.size j=((yH s).data.toList.getD j 0).toNat:=by
 have vy:j<s.data.toList.length:=by simpa using hj
 unfold k8 yH;rw[if_pos hj,jQ];simp only[Qn,List.getElem?_map,Ic vy];rfl
theorem Hb(s:ByteArray)(k j:Nat)(hl:¬ (65<=(s.data.toList.getD k 0).toNat/\(s.data.toList.getD k 0).toNat<=90)):k8 s (k+1) j=k8 s k j:=by
 unfold k8;by_cases h1:j<k
 .rw[if_pos h1,if_pos (by omega)]
 .by_cases h2:j=k
  .subst h2
   rw[if_pos (by omega),if_neg (by omega)];unfold lwb;rw[if_neg hl]
  .rw[if_neg h1,if_neg (by omega)]
theorem Hc(s:ByteArray)(k:Nat)(hl:65<=(s.data.toList.getD k 0).toNat/\(s.data.toList.getD k 0).toNat<=90):k8 s (k+1) k=(s.data.toList.getD k 0).toNat+32:=by
 unfold k8 lwb;rw[if_pos (by omega),if_pos hl];show((s.data.toList.getD k 0).toNat+32)%256=_;omega
theorem Hd(s:ByteArray)(k j:Nat)(h:j≠k):k8 s (k+1) j=k8 s k j:=by
 unfold k8;by_cases h1:j<k
 .rw[if_pos h1,if_pos (by omega)]
 .rw[if_neg h1,if_neg (by omega)]
theorem He(s:ByteArray)(w:World)(hs:s.size<=1000) :
 Calls be 154 #[I s] w λe w'=>e=sh (I (yH s))/\Below w.heap.size w w':=by
 have hcv:=λw s=>Lib.run_convert_string_bytes (P:=be) w 9 127 5 s (u:=.string) IE JQ Js;have dy:Hid (∀j,j<s.size->(Of w 5 s).cell? ⟨w.heap.size,j,Y⟩=Z (O .u8 (k8 s 0 j:Nat))):=λj hj=>Lib.bytesWorld_cell w 5 s j hj;have HF0:Hid (∀j,j<s.size->(Of w 5 s).frozen? ⟨w.heap.size,j,Y⟩=false):=λj hj=>by
  have h:=Lib.bytesWorld_at_new w 5 s;have h2:s.size<=(Lib.bytesCells w 5 s).size:=by simp[Lib.bytesCells]
  simp only[Ig,h];simp;omega
 have hX:Below w.heap.size w (Of w 5 s):=by
  rw[<- ox w s];exact((Below.refl _ _).drew).alloc (By _) _
 have HX0:Hid (Below w.heap.size w (Of w 5 s)):=hX;clear hX;obtain⟨W1,e9⟩:∃W1,W1=Of w 5 s:=⟨_,rfl⟩;go_enter Tryz.func154,Tryz.ntmps154;go_wp2_with fail;rw[<- e9] at dy HX0 HF0 ⊢;clear hcv e9;have CJ:(yH s).data.toList.length=s.size:=by have:=AK s;simpa using this
 have HBK:Hid (∀cap W,(∀j,j<s.size->W.cell? ⟨w.heap.size,j,Y⟩=Z (O .u8 (k8 s s.size j:Nat)))->(convert 127 9 (.slice (Z ⟨w.heap.size,0,Y⟩) s.size cap)).run be W=.ok (I (yH s)) W):=λcap W hW=>by
  have h:=run_convert_bytes_back (P:=be) W 127 9 5 ⟨w.heap.size,0,Y⟩ cap (yH s).data.toList JQ Js IE (λj hj=>by
   have h2:=hW j (by omega);rw[NI s j (by omega),Qn,Ic hj] at h2;have ha:(⟨w.heap.size,0,Y⟩:Addr).add j=⟨w.heap.size,j,Y⟩:=by
    by_cases Su:j=0<;>simp[Addr.add,Su]
   rw[ha];simpa using h2)
  rw[CJ] at h;exact h
 clear CJ;go_loopw [10] (λvi wr=>∃(k:Nat),vi=O J k/\k<=s.size/\Hid (∀j,j<s.size->wr.cell? ⟨w.heap.size,j,Y⟩=Z (O .u8 (k8 s k j:Nat)))/\Hid (∀j,j<s.size->wr.frozen? ⟨w.heap.size,j,Y⟩=false)/\Hid (Below w.heap.size w wr))
  (λvi _=>s.size-(intOf vi).toNat)
 case atStart=>exact⟨0,rfl,by omega,dy,HF0,HX0⟩
 case round=>
  obtain⟨k,rfl,hk,HB,HF,HX⟩:=hrel;by_cases fM:k<s.size
  .have hc:decide ((k:Int)<(s.size:Int))=true:=by simp;omega
   have ej:=HB.out k fM;have gF:=HF.out k fM;have ei:(0:Int)<=(k:Int):=by omega
   have X0:(k:Int)<(s.size:Int):=by omega
   have Gi:((k:Int)).toNat=k:=by omega
   have HV:Hid (k8 s k k=(s.data.toList.getD k 0).toNat):=(show _=_ by unfold k8;rw[if_neg (by omega)]);rw[HV.out] at ej;have ake:=(s.data.toList.getD k 0).toNat_lt;by_cases hl:65<=(s.data.toList.getD k 0).toNat/\(s.data.toList.getD k 0).toNat<=90
   .have HT:Hid (k8 s (k+1) k=(s.data.toList.getD k 0).toNat+32):=Hc s k hl
    generalize hb:(s.data.toList.getD k 0).toNat=b at *;clear hb;have nt:decide ((65:Int)<=(b:Int))=true:=by simp;omega
    have G9:decide ((b:Int)<=90)=true:=by simp;omega
    have De:IntKind.u8.wrap ((b:Int)-65)=(b:Int)-65:=by rw[QR];omega
    have rH:IntKind.u8.wrap ((b:Int)-65+97)=((b+32:Nat):Int):=by rw[QR];omega
    go_wp2_with fail;refine⟨⟨k+1,by simp,by omega,?_,?_,?_⟩,by simp[intOf];omega⟩
    .show ∀_,_
     intro j hj;by_cases Sg:j=k
     .subst Sg
      rw[World.cell?_setCell_same _ _ _ ej,HT.out];simp
     .refine(World.cell?_setCell_other _ _ _ _ (λe=>by injection e with e1 e2;exact Sg e2.symm)).trans ?_
      rw[Hd s k j Sg];exact HB.out j hj
    .show ∀_,_
     intro j hj;simpa using HF.out j hj
    .exact HX.out.setCell (p:=⟨w.heap.size,k,Y⟩) (By _) _
   .have HT:Hid (∀j,k8 s (k+1) j=k8 s k j):=λj=>Hb s k j hl
    generalize hb:(s.data.toList.getD k 0).toNat=b at *;clear hb;have aR:Hid (∀j,j<s.size->wr.cell? ⟨w.heap.size,j,Y⟩=Z (O .u8 (k8 s (k+1) j:Nat))):=λj hj=>by rw[HT.out j];exact HB.out j hj
    by_cases h65:65<=b
    .have nt:decide ((65:Int)<=(b:Int))=true:=by simp;omega
     have G9:decide ((b:Int)<=90)=false:=by simp;omega
     go_wp2_with fail;refine⟨⟨k+1,by simp,by omega,aR,HF,HX⟩,by simp[intOf];omega⟩
    .have nt:decide ((65:Int)<=(b:Int))=false:=by simp;omega
     go_wp2_with fail;refine⟨⟨k+1,by simp,by omega,aR,HF,HX⟩,by simp[intOf];omega⟩
  .have hc:decide ((k:Int)<(s.size:Int))=false:=by simp;omega
   have aaj:k=s.size:=by omega
   subst aaj;have wF:=λcap=>HBK.out cap wr HB.out;go_wp2_with fail;simp[bodyPost,results,Tryz.results154];exact HX.out
end Go.Proofs.YtfidjlcdlakceaaGreatDoor
namespace Go.Proofs.YtfidjlcdlakceaaGreatDoor
open Go.RowKit Go.Lib
def Md(t:ByteArray):Nat->Nat->Nat->List ByteArray->Option Nat->Option (List ByteArray×Nat)
 |0,_,_,_,_=>Y
 |f+1,b,bg,D,p=>
  if b<t.size then
   if ax t b 1=0 then Z (D,p.getD (b+1))
   else if 192<=ax t b 1 then
    (if b+2<=t.size/\ax t b 2-49152<bg then Md t f (ax t b 2-49152) (ax t b 2-49152) D (Z (p.getD (b+2))) else Y)
   else
    (if b+1+ax t b 1<=t.size/\aN (yH (t.extract (b+1) (b+1+ax t b 1)))=true/\D.length<8 then Md t f (b+1+ax t b 1) bg (D++[yH (t.extract (b+1) (b+1+ax t b 1))]) p else Y)
  else Y
def vF(t:ByteArray)(b bg:Nat)(D:List ByteArray)(p:Option Nat):Option (List ByteArray×Nat):=Md t (bg*9+(8-D.length)+1) b bg D p
theorem pt(t:ByteArray):∀(f g b bg:Nat) (D:List ByteArray) (p:Option Nat),bg*9+(8-D.length)<f->bg*9+(8-D.length)<g->Md t f b bg D p=Md t g b bg D p
 |0,_,_,_,_,_,h,_=>by omega
 |_+1,0,_,_,_,_,_,h=>by omega
 |f+1,g+1,b,bg,D,p,hf,hg=>by
  simp only[Md];by_cases h1:b<t.size
  .rw[if_pos h1,if_pos h1]
   by_cases h2:ax t b 1=0
   .rw[if_pos h2,if_pos h2]
   .rw[if_neg h2,if_neg h2]
    by_cases h3:192<=ax t b 1
    .rw[if_pos h3,if_pos h3]
     by_cases h4:b+2<=t.size/\ax t b 2-49152<bg
     .rw[if_pos h4,if_pos h4]
      exact pt t f g _ _ _ _ (by omega) (by omega)
     .rw[if_neg h4,if_neg h4]
    .rw[if_neg h3,if_neg h3]
     by_cases h4:b+1+ax t b 1<=t.size/\aN (yH (t.extract (b+1) (b+1+ax t b 1)))=true/\D.length<8
     .rw[if_pos h4,if_pos h4]
      exact pt t f g _ _ _ _ (by rw[Ii,JB];omega) (by rw[Ii,JB];omega)
     .rw[if_neg h4,if_neg h4]
  .rw[if_neg h1,if_neg h1]
theorem aak{t:ByteArray}{b bg:Nat}{D:List ByteArray}{p:Option Nat}(h:¬ b<t.size):vF t b bg D p=Y:=by unfold vF;simp only[Md];rw[if_neg h]
theorem TQ{t:ByteArray}{b bg:Nat}{D:List ByteArray}{p:Option Nat}(h:b<t.size)(h0:ax t b 1=0):vF t b bg D p=Z (D,p.getD (b+1)):=by unfold vF;simp only[Md];rw[if_pos h,if_pos h0]
theorem NJ{t:ByteArray}{b bg:Nat}{D:List ByteArray}{p:Option Nat}(h:b<t.size)(h0:192<=ax t b 1):vF t b bg D p=if b+2<=t.size/\ax t b 2-49152<bg then vF t (ax t b 2-49152) (ax t b 2-49152) D (Z (p.getD (b+2))) else Y:=by
 have e:vF t b bg D p=if b+2<=t.size/\ax t b 2-49152<bg then Md t (bg*9+(8-D.length)) (ax t b 2-49152) (ax t b 2-49152) D (Z (p.getD (b+2))) else Y:=by
  unfold vF;simp only[Md];rw[if_pos h,if_neg (by omega),if_pos h0]
 rw[e];by_cases h1:b+2<=t.size/\ax t b 2-49152<bg
 .rw[if_pos h1,if_pos h1]
  exact pt t _ _ _ _ _ _ (by omega) (by omega)
 .rw[if_neg h1,if_neg h1]
theorem Hf{t:ByteArray}{b bg:Nat}{D:List ByteArray}{p:Option Nat}(h:b<t.size)(h0:ax t b 1≠0)(h1:¬ 192<=ax t b 1):vF t b bg D p=if b+1+ax t b 1<=t.size/\aN (yH (t.extract (b+1) (b+1+ax t b 1)))=true/\D.length<8 then vF t (b+1+ax t b 1) bg (D++[yH (t.extract (b+1) (b+1+ax t b 1))]) p else Y:=by
 have e:vF t b bg D p=if b+1+ax t b 1<=t.size/\aN (yH (t.extract (b+1) (b+1+ax t b 1)))=true/\D.length<8 then Md t (bg*9+(8-D.length)) (b+1+ax t b 1) bg (D++[yH (t.extract (b+1) (b+1+ax t b 1))]) p else Y:=by
  unfold vF;simp only[Md];rw[if_pos h,if_neg h0,if_neg h1]
 rw[e];by_cases h2:b+1+ax t b 1<=t.size/\aN (yH (t.extract (b+1) (b+1+ax t b 1)))=true/\D.length<8
 .rw[if_pos h2,if_pos h2]
  exact pt t _ _ _ _ _ _ (by rw[Ii,JB];omega) (by omega)
 .rw[if_neg h2,if_neg h2]
structure Nm(g:Nat)(t:ByteArray)(w:World)(lv:Value)(k b:Nat)(D:List ByteArray)(p:Option Nat)(W:World):Prop where
 dE:dR k t b W
 rd:Rd g w W
 own:dC w.heap.size W lv D
 wh:(p=Y/\k=g)\/(∃q,p=Z q/\w.heap.size<=k/\dR g t q W/\q<=t.size/\lv.ownBlock≠Z k)
 lt:g<w.heap.size
theorem Nm.ne{g k b:Nat}{t:ByteArray}{w W:World}{lv:Value}{D:List ByteArray}{p:Option Nat}(h:Nm g t w lv k b D p W):lv.ownBlock≠Z k:=by
 rcases h.wh with⟨_,rfl⟩|⟨_,_,_,_,_,h5⟩
 .intro e
  have:=(h.own.lt _ e).1;have:=h.lt;omega
 .exact h5
theorem Nm.text{g k b:Nat}{t:ByteArray}{w W:World}{lv:Value}{D:List ByteArray}{p:Option Nat}(h:Nm g t w lv k b D p W):W.cell? ⟨g,0,Y⟩=Z (I t):=by
 rcases h.wh with⟨_,rfl⟩|⟨_,_,_,h4,_,_⟩
 .exact h.dE.c0
 .exact h4.c0
theorem Rd.dE{k g a:Nat}{t:ByteArray}{W W':World}(h:Rd k W W')(hg:dR g t a W)(bu:g≠k):dR g t a W' where
 c0:=(Ol (a:=⟨g,0,Y⟩) (h.block g hg.hg bu)).trans hg.c0
 c1:=(Ol (a:=⟨g,1,Y⟩) (h.block g hg.hg bu)).trans hg.c1
 hz:=(World.frozen?_of_block (a:=⟨g,1,Y⟩) (h.block g hg.hg bu)).trans hg.hz
 hg:=Iv hg.hg h.size
theorem Nm.rd2{g k b:Nat}{t:ByteArray}{w W W':World}{lv:Value}{D:List ByteArray}{p:Option Nat}(h:Nm g t w lv k b D p W)(h2:Hid (Rd k W W')):Rd g w W':=by
 rcases h.wh with⟨_,rfl⟩|⟨q,_,h3,_,_,_⟩
 .exact h.rd.trans h2.out
 .exact⟨h2.out.os.trans h.rd.os,h2.out.tape.trans h.rd.tape,h2.out.output.trans h.rd.output,Ir h.rd.size h2.out.size,λj hj hg=>(h2.out.block j (Iv hj h.rd.size) (by omega)).trans (h.rd.block j hj hg)⟩
theorem Nm.call{g k b c:Nat}{t:ByteArray}{w W W':World}{lv:Value}{D:List ByteArray}{p:Option Nat}(h:Nm g t w lv k b D p W)(h1:Hid (dR k t c W'))(h2:Hid (Rd k W W')):Nm g t w lv k c D p W':=by
 have hl:=h.lt;refine⟨h1.out,h.rd2 h2,?_,?_,hl⟩
 .have bu:=h.ne
  rcases h.own.2 with⟨rfl,h0⟩|⟨j,c,cur,rfl,dQ,hk,r⟩
  .exact⟨h.own.1,.inl ⟨rfl,h0⟩⟩
  .refine⟨h.own.1,.inr ⟨j,c,cur,rfl,dQ,(h2.out.block j (Array.getElem?_eq_some_iff.1 hk).1 ?_).trans hk,r⟩⟩
   intro e;exact bu (by rw[e];rfl)
 .rcases h.wh with⟨h3,h4⟩|⟨q,h3,h4,h5,h6,h7⟩
  .exact .inl ⟨h3,h4⟩
  .exact .inr ⟨q,h3,h4,h2.out.dE h5 (by omega),h6,h7⟩
theorem Nm.below{g k b:Nat}{t:ByteArray}{w W W':World}{lv:Value}{D:List ByteArray}{p:Option Nat}(h:Nm g t w lv k b D p W)(hb:Below W.heap.size W W'):Nm g t w lv k b D p W':=
 h.call (h.dE.below hb h.dE.hg) (Rd.fJ hb (By _):Rd k W W')
theorem Nm.grown{g k b:Nat}{t l:ByteArray}{w W W':World}{lv v':Value}{D:List ByteArray}{p:Option Nat}(h:Nm g t w lv k b D p W)(h1:dC w.heap.size W' v' (D++[l]))(h2:W.grownBy W' lv.ownBlock)(h3:v'.ownBlock=lv.ownBlock\/v'.ownBlock=Z W.heap.size):Nm g t w v' k b (D++[l]) p W':=by
 have hl:=h.lt;have bu:=h.ne;have hk:=h.dE.hg;have hblk:∀q,q<w.heap.size->W'.heap[q]?=W.heap[q]?:=λq hq=>h2.block q (Iv hq h.rd.size) (λe=>by have:=(h.own.lt _ e.symm).1;omega);have isr:∀q a,(q=k\/q=g)->dR q t a W->dR q t a W':=λq a hq hr=>by
  have hqb:W'.heap[q]?=W.heap[q]?:=by
   rcases hq with rfl|rfl
   .exact h2.block q hk (λe=>bu e.symm)
   .exact hblk q hl
  exact⟨(Ol (a:=⟨q,0,Y⟩) hqb).trans hr.c0,(Ol (a:=⟨q,1,Y⟩) hqb).trans hr.c1,(World.frozen?_of_block (a:=⟨q,1,Y⟩) hqb).trans hr.hz,Iv hr.hg h2.size⟩
 refine⟨isr k b (.inl rfl) h.dE,⟨h2.os.trans h.rd.os,h2.tape.trans h.rd.tape,h2.output.trans h.rd.output,Ir h.rd.size h2.size,λj hj hg=>(hblk j hj).trans (h.rd.block j hj hg)⟩,h1,?_,hl⟩;rcases h.wh with⟨h4,h5⟩|⟨q,h4,h5,h6,h7,h8⟩
 .exact .inl ⟨h4,h5⟩
 .refine .inr ⟨q,h4,h5,isr g q (.inr rfl) h6,h7,?_⟩
  rcases h3 with e|e
  .rw[e];exact h8
  .rw[e];intro e2;have:=Option.some.inj e2;omega
theorem Nm.rest{g k b r:Nat}{t:ByteArray}{w W:World}{lv:Value}{D:List ByteArray}{p:Option Nat}(h:Nm g t w lv k b D p W)(hb:b<=t.size):Nm g t w lv W.heap.size r D (Z (p.getD b)) (W.alloc (.cells #[I t,O J r] 107)):=by
 have hx:W.Extends (W.alloc (.cells #[I t,O J r] 107)):=(World.Extends.refl W).alloc _;have hn:(W.alloc (.cells #[I t,O J r] 107)).heap[W.heap.size]?=Z (.cells #[I t,O J r] 107 (0,0)):=heap_alloc_new W _;have aU:Below W.heap.size W (W.alloc (.cells #[I t,O J r] 107)):=(Below.refl _ _).alloc (By _) _;refine⟨⟨by simp only[World.cell?,hn];rfl,by simp only[World.cell?,hn];rfl,by simp only[Ig,hn];rfl,by simp⟩,h.rd.trans (Rd.ext hx),h.own.below aU,.inr ⟨p.getD b,rfl,h.rd.size,?_,?_,?_⟩,h.lt⟩
 .rcases h.wh with⟨rfl,rfl⟩|⟨q,rfl,_,h5,_,_⟩
  .exact h.dE.ext hx
  .exact h5.ext hx
 .rcases h.wh with⟨rfl,rfl⟩|⟨q,rfl,_,_,h6,_⟩
  .exact hb
  .exact h6
 .intro e
  have:=(h.own.lt _ e).2;omega
theorem Nm.fin{g k b:Nat}{t:ByteArray}{w W:World}{lv:Value}{D:List ByteArray}{p:Option Nat}(h:Nm g t w lv k b D p W)(hb:b<=t.size):dR g t (p.getD b) W/\p.getD b<=t.size:=by
 rcases h.wh with⟨rfl,rfl⟩|⟨q,rfl,_,h5,h6,_⟩
 .exact⟨h.dE,hb⟩
 .exact⟨h5,h6⟩
theorem NK(t:ByteArray)(b:Nat)(h:192<=ax t b 1):49152<=ax t b 2:=by
 have e:ax t b 2=ax t b 1*256+(t.data[b+1]?.getD 0).toNat:=rfl;omega
theorem Dr:∀(D:List ByteArray),(∀l∈D,l.size<=30)->(jn (D.map xz)).length<=D.length*31
 |[],_=>by simp[jn]
 |[x],h=>by have:=h x (by simp);simp[jn];omega
 |x::y::r,h=>by
  have ih:=Dr (y::r) (λl hl=>h l (List.mem_cons_of_mem _ hl));have hx:=h x (by simp);have hx2:(xz x).length=x.size:=by simp
  simp only[List.map_cons,jn,Ii,List.length_cons] at ih ⊢;omega
theorem Fl(t:ByteArray)(b f:Nat)(h:b+1+f<=t.size):(t.extract (b+1) (b+1+f)).size=f:=by simp;omega
theorem aal(g a:Nat)(t:ByteArray)(w:World)(h:dR g t a w)(hs:t.size<=1000)(ha:a<=t.size) :
 Calls be 102 #[If (Z ⟨g,0,Y⟩)] w λe w'=>Hid (Rd g w w')/\((∃ls q,vF t a a [] Y=Z (ls,q)/\(ls.length<=8/\∀l∈ls,l.size<=30)/\q<=t.size/\e=sh (I (mk (jn (ls.map xz))))/\Hid (dR g t q w'))\/(vF t a a [] Y=Y/\e=dW 1)):=by
 obtain⟨i0,ei,bW,fs,eU⟩:=info_parts Tryz.yz;have c1:=h.c1;have HI:Hid (dR g t a w):=h;have nN:=h.hg;clear h;obtain⟨SH,aam⟩:∃R,R=vF t a a [] Y:=⟨_,rfl⟩;rw[<- aam];have TR:Hid (vF t a a [] Y=SH):=aam.symm;clear aam;have HJ:Hid (∀(D:List ByteArray) (W:World) (v:Value),dC w.heap.size W v D->D.length<=8->(∀l∈D,l.size<=30)->∃R,R=mk (jn (D.map xz))/\Calls be 62 #[v,I ⟨#[46]⟩] W λe w'=>e=sh (I R)/\Below W.heap.size W w'):=λD W v ho hd hl=>⟨_,rfl,AM _ D W v ho (by omega) (by have:=Dr D hl;omega)⟩;go_enter Tryz.func102,Tryz.ntmps102;go_wp2_with fail;go_quiet (fail)
 go_wp2_with fail;go_loopw [3,4,5] (λlv pv bv wr=>∃(D:List ByteArray) (b bg:Nat) (p:Option Nat) (k:Nat),pv=If (Z ⟨k,0,Y⟩)/\bv=O J bg/\b<=t.size/\bg<=t.size/\D.length<=8/\Hid (∀l∈D,l.size<=30)/\Hid (vF t b bg D p=SH)/\Hid (Nm g t w lv k b D p wr)) (λlv _ bv _=>(RowKit.intOf bv).toNat*9+(8-lenOf lv))
 case atStart=>exact⟨[],a,a,Y,g,rfl,rfl,ha,ha,by simp,(show ∀_,_ from λl hl=>by cases hl),TR,(⟨HI.out.ext (nu _ _),Rd.ext (nu _ _),qw _ _,.inl ⟨rfl,rfl⟩,nN⟩:Nm g t w _ g a [] Y _)⟩
 case round=>
  obtain⟨D,b,bg,p,k,rfl,rfl,hb,dQ,hD,XW,HR,HN⟩:=hrel;have HP:Hid (Calls be 153 #[If (Z ⟨k,0,Y⟩)] wr λe w'=>Hid (Rd k wr w')/\((b<t.size/\e=sh (O .u8 (ax t b 1:Nat))/\Hid (dR k t b w'))\/(¬ b<t.size/\e=dW 1))):=aai k b t wr HN.out.dE;go_wp2_with fail;refine HP.out.mono ?_;rintro e w1 ⟨jF,⟨aL,rfl,sU⟩|⟨aL,rfl⟩⟩;rotate_left
  .exact⟨rfl,HN.out.rd2 jF,.inr ⟨HR.out.symm.trans (aak aL),rfl⟩⟩
  have yI:Hid (Nm g t w _ k b D p w1):=HN.out.call sU jF;clear HN HP sU jF;by_cases h0:ax t b 1=0
  .have kD:Hid (SH=Z (D,p.getD (b+1))):=HR.out.symm.trans (TQ aL h0)
   have HX:Hid (Calls be 101 #[If (Z ⟨k,0,Y⟩),O J 1,O J 0] w1 λe w'=>Hid (Rd k w1 w')/\(((b+1<=t.size/\(ax t b 1:Int)=0)/\e=sh (.tuple #[])/\Hid (dR k t (b+1) w'))\/(¬ (b+1<=t.size/\(ax t b 1:Int)=0)/\e=dW 1))):=ik k b 1 0 t w1 yI.out.dE hs hb (by omega);rw[h0] at HX ⊢;go_wp2_with fail;refine HX.out.mono ?_;rintro e w2 ⟨lQ,⟨_,rfl,vC⟩|⟨iV,rfl⟩⟩;rotate_left
   .exact absurd ⟨by omega,rfl⟩ iV
   have Ds:Hid (Nm g t w _ k (b+1) D p w2):=yI.out.call vC lQ;clear vC lQ HX yI;go_wp2_with fail;obtain⟨R,hR,Dt⟩:=HJ.out D w2 _ Ds.out.own hD XW.out;have Dt:Hid (Calls be 62 #[_,I ⟨#[46]⟩] w2 λe w'=>e=sh (I R)/\Below w2.heap.size w2 w'):=Dt;have HRR:Hid (R=mk (jn (D.map xz))):=hR;clear hR;refine Dt.out.mono ?_;rintro e w3 ⟨rfl,bf⟩;have Me:Hid (Nm g t w _ k (b+1) D p w3):=Ds.out.below bf;clear bf Ds;go_wp2_with fail;go_ret;obtain⟨f1,f2⟩:=Me.out.fin (by omega);exact⟨Me.out.rd,.inl ⟨D,_,kD.out,⟨hD,XW.out⟩,f2,by rw[HRR.out];rfl,f1⟩⟩
  .by_cases h192:192<=ax t b 1
   .have kD:Hid (SH=if b+2<=t.size/\ax t b 2-49152<bg then vF t (ax t b 2-49152) (ax t b 2-49152) D (Z (p.getD (b+2))) else Y):=HR.out.symm.trans (NJ aL h192)
    have h2:=NK t b h192;have hm0:((ax t b 1:Int)==0)=false:=beq_eq_false_iff_ne.2 (by omega);have oO:¬ (ax t b 1:Int)=0:=by omega
    have SI:decide ((192:Int)<=(ax t b 1:Int))=true:=by simp;omega
    have HX:Hid (Calls be 99 #[If (Z ⟨k,0,Y⟩),O J 2] w1 λe w'=>Hid (Rd k w1 w')/\((b+2<=t.size/\e=sh (O J (ax t b 2))/\Hid (dR k t (b+2) w'))\/(¬ b+2<=t.size/\e=dW 1))):=ew k b 2 t w1 yI.out.dE hs hb (by omega);clear HR;go_wp2_with fail;refine HX.out.mono ?_;rintro e w2 ⟨lQ,⟨hle,rfl,vC⟩|⟨iV,rfl⟩⟩;rotate_left
    .exact⟨rfl,yI.out.rd2 lQ,.inr ⟨kD.out.trans (if_neg (λh=>iV h.1)),rfl⟩⟩
    have Ds:Hid (Nm g t w _ k (b+2) D p w2):=yI.out.call vC lQ;clear vC lQ HX yI;have ct:=Ds.out.text;have fG:=sV t b 2;obtain⟨r,hr⟩:∃r,r=ax t b 2-49152:=⟨_,rfl⟩;rw[<- hr] at kD;have WQ:IntKind.i64.wrap ((ax t b 2:Int)-49152)=(r:Int):=by rw[IK];omega
    clear hr h2 fG;by_cases hrb:r<bg
    .have hd:decide ((r:Int)<(bg:Int))=true:=by simp;omega
     have my:Hid (vF t r r D (Z (p.getD (b+2)))=SH):=(kD.out.trans (if_pos ⟨hle,hrb⟩)).symm;clear kD;go_wp2_with fail;refine(cy _ _).mono ?_;rintro e w5 ⟨rfl,yE⟩;subst yE;have Me:Hid (Nm g t w _ w5.heap.size r D (Z (p.getD (b+2))) (w5.alloc (.cells #[I t,O J r] 107))):=Ds.out.rest hle;clear Ds;go_wp2_with fail;refine⟨⟨D,r,r,_,w5.heap.size,rfl,rfl,by omega,by omega,hD,XW,my,Me⟩,?_⟩;simp[RowKit.intOf];omega
    .have hd:decide ((r:Int)<(bg:Int))=false:=by simp;omega
     have my:Hid (SH=Y):=kD.out.trans (if_neg (λh=>hrb h.2));clear kD;go_wp2_with fail;refine(dd _ _).mono ?_;rintro e w5 ⟨rfl,yE⟩;subst yE;exact⟨rfl,Ds.out.rd,.inr ⟨my.out,rfl⟩⟩
   .have kD:Hid (SH=if b+1+ax t b 1<=t.size/\aN (yH (t.extract (b+1) (b+1+ax t b 1)))=true/\D.length<8 then vF t (b+1+ax t b 1) bg (D++[yH (t.extract (b+1) (b+1+ax t b 1))]) p else Y):=HR.out.symm.trans (Hf aL h0 h192)
    have hm0:((ax t b 1:Int)==0)=false:=beq_eq_false_iff_ne.2 (by omega);have oO:¬ (ax t b 1:Int)=0:=by omega
    have SI:decide ((192:Int)<=(ax t b 1:Int))=false:=by simp;omega
    have HX:Hid (Calls be 155 #[If (Z ⟨k,0,Y⟩)] w1 λe w'=>Hid (Rd k w1 w')/\((b+1+ax t b 1<=t.size/\e=sh (I (t.extract (b+1) (b+1+ax t b 1)))/\Hid (dR k t (b+1+ax t b 1) w'))\/(¬ b+1+ax t b 1<=t.size/\e=dW 1))):=xy k b t w1 yI.out.dE hs hb;clear HR;generalize hf:ax t b 1=f at *;clear hf;go_wp2_with fail;refine HX.out.mono ?_;rintro e w2 ⟨lQ,⟨hle,rfl,vC⟩|⟨iV,rfl⟩⟩;rotate_left
    .exact⟨rfl,yI.out.rd2 lQ,.inr ⟨kD.out.trans (if_neg (λh=>iV h.1)),rfl⟩⟩
    have Ds:Hid (Nm g t w _ k (b+1+f) D p w2):=yI.out.call vC lQ;have hes:=Fl t b f hle;generalize t.extract (b+1) (b+1+f)=x at *;clear vC lQ HX yI;go_wp2_with fail;refine(He x w2 (by omega)).mono ?_;rintro e w3 ⟨rfl,bf⟩;have Me:Hid (Nm g t w _ k (b+1+f) D p w3):=Ds.out.below bf;have WR:=AK x;generalize yH x=l at *;clear bf Ds;obtain⟨pp,c,hv⟩:=xA Me.out.own;subst hv;have hls:l.size<=maxLen:=by unfold maxLen;omega
    by_cases hl:aN l=true
    .have ac7:=ub hl
     have Fe:Hid (aN l=true):=hl;clear hl;by_cases Ny:D.length<8
     .have hd8:decide ((D.length:Int)<8)=true:=by simp;omega
      have my:Hid (vF t (b+1+f) bg (D++[l]) p=SH):=(kD.out.trans (if_pos ⟨hle,Fe.out,Ny⟩)).symm;clear kD;go_wp2_with fail;refine(bc l w3 hls).mono ?_;rintro e w4 ⟨rfl,yD⟩;subst yD;rw[Fe.out];go_wp2_with fail;refine(cy _ _).mono ?_;rintro e w5 ⟨rfl,yE⟩;subst yE;have TS:=Me.out.rd.size;go_wp2_with (at_builtin;refine wpList_append_own_at _ rfl _ _ 111 rfl w.heap.size 9 i0 _ 1 16 Tryz.underlying111 ei bW fs eU rfl (by omega) _ D.length (D.map Value.string) rfl ?hown ⟨w5.heap.size,0,Y⟩ 1 1 [I l] rfl rfl ?hnews (o8 [_]) ?h63 ?hbytes ?hbase ?_)
      case hown=>exact Me.out.own.below ((Below.refl _ _).alloc (By _) _)
      case hnews=>(intro j u hj;rw[Addr.add_lit];exact(bJ (by simp)).trans (by simpa using hj))
      case h63=>(unfold maxLen;omega)
      case hbytes=>omega
      case hbase=>(simp;omega)
      intro v' w6 r1 r2 r3 r4;have HN4:Hid (Nm g t w v' k (b+1+f) (D++[l]) p w6):=(Me.out.below ((Below.refl _ _).alloc (By _) _)).grown (oo (l:=D) r1) r2 (by simpa using r4);have ahe:Hid (∀x∈D++[l],x.size<=30):=(show ∀_,_ from λx hx=>by
       rcases List.mem_append.1 hx with h|h
       .exact XW.out x h
       .rw[List.mem_singleton.1 h];exact ac7.2)
      clear r1 r2 r3 r4 Me XW;go_wp2_with fail;refine⟨⟨D++[l],b+1+f,bg,p,k,rfl,rfl,by omega,dQ,by rw[Ii,JB];omega,ahe,my,HN4⟩,?_⟩;rw[Fm HN4.out.own,show lenOf (Value.slice pp D.length c)=D.length from rfl,Ii,JB];omega
     .have hd8:decide ((D.length:Int)<8)=false:=by simp;omega
      have my:Hid (SH=Y):=kD.out.trans (if_neg (λh=>Ny h.2.2));clear kD;go_wp2_with fail;refine(bc l w3 hls).mono ?_;rintro e w4 ⟨rfl,yD⟩;subst yD;rw[Fe.out];go_wp2_with fail;refine(dd _ _).mono ?_;rintro e w5 ⟨rfl,yE⟩;subst yE;exact⟨rfl,Me.out.rd,.inr ⟨my.out,rfl⟩⟩
    .have Fe:Hid (aN l=false):=(show _=_ by simpa using hl)
     have my:Hid (SH=Y):=kD.out.trans (if_neg (λh=>hl h.2.1));clear kD hl;go_wp2_with fail;refine(bc l w3 hls).mono ?_;rintro e w4 ⟨rfl,yD⟩;subst yD;rw[Fe.out];go_wp2_with fail;refine(dd _ _).mono ?_;rintro e w5 ⟨rfl,yE⟩;subst yE;exact⟨rfl,Me.out.rd,.inr ⟨my.out,rfl⟩⟩
end Go.Proofs.YtfidjlcdlakceaaGreatDoor
