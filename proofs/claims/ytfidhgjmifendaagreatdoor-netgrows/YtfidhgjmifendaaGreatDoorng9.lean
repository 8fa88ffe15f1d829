import Derived.Test.YtfidhgjmifendaaGreatDoorng8
set_option maxHeartbeats 4000000
set_option maxRecDepth 100000
open Go.Obj renaming cells→By
open Option renaming none→be,some→AI
open Go.Value renaming int→U,slice→J,agg→Ik,string→Y,bool→Ia,func→IP,tuple→Im
open Go.IntKind renaming i64→O
open Go.Ending renaming returned→AT
open Go.Proofs.Tryz renaming ntmps129→Q3,func172→QP,ntmps172→Qx,prog→AS
open Go renaming wp_loop_rounds→J8,rounds_succ→JQ,heap_alloc_new→Ii,redrawn→Iv,Regrown→JI,wp_region_quiet_below→IA,below_drewN→Jc
open Go.RowKit.Below renaming refl→Ib
open Nat renaming le_refl→Ic,not_lt_zero→Jl,lt_succ_iff_lt_or_eq→I8,zero_le→IH,zero_add→ID,lt_of_lt_of_le→IJ
open Go.World renaming new_ne→QN
open Go.Sort renaming grow→Ij
open Go.Calls renaming regrown_of→IU
namespace Go.Proofs.YtfidhgjmifendaaGreatDoor
namespace Sv
open Go.RowKit
theorem wy{W:World}{cs:Array Value}{t:TypeId}{g k:Nat}(hg:g=W.heap.size):(W.alloc (By cs t)).cell? ⟨g,k,be⟩=cs[k]?:=by subst hg;simp
theorem pN{a b:ByteArray}(h:¬ a=b):Op.bytesLess a.toList b.toList = !Op.bytesLess b.toList a.toList:=by
 have h1:=sr b.toList a.toList;rw[(fP h).1,Bool.or_false] at h1;exact h1.symm
def PQ(a b:Int):Int:=if a=0 then b else a
theorem BA(a b:Int)(g:Nat)(c:Nat)(w:World)(h0:w.cell? ⟨g,0,be⟩=AI (U O a))(h1:w.cell? ⟨g,1,be⟩=AI (U O b)) :
 aF 129 #[J (AI ⟨g,0,be⟩) 2 c] w λe w'=>e=AT (U O (PQ a b))/\w'=w:=by
 by_cases ha:a=0
 .subst ha
  by_cases hb:b=0
  .subst hb
   go_enter Tryz.func129,Q3;go_wp2_with fail;refine J8 3 ?_;rw[JQ];go_wp2_with fail;rw[JQ];go_wp2_with fail;rw[JQ];go_wp2_with fail;go_ret;exact⟨rfl,rfl⟩
  .have wA:(b !=0)=true:=by simpa using hb
   go_enter Tryz.func129,Q3;go_wp2_with fail;refine J8 3 ?_;rw[JQ];go_wp2_with fail;rw[JQ];go_wp2_with fail;go_ret;exact⟨rfl,rfl⟩
 .have ha':(a !=0)=true:=by simpa using ha
  go_enter Tryz.func129,Q3;go_wp2_with fail;refine J8 3 ?_;rw[JQ];go_wp2_with fail;go_ret;exact⟨ai (by unfold PQ;rw[if_neg ha]),rfl⟩
theorem dh(a b:aW)(w:World) :
 aF 157 #[Ik #[Y a.node,Y a.bq,Y a.name,Y a.tag,U O a.addr,U O a.port,Ia a.aj,U O a.version,Ia a.gone],Ik #[Y b.node,Y b.bq,Y b.name,Y b.tag,U O b.addr,U O b.port,Ia b.aj,U O b.version,Ia b.gone]] w λe w'=>e=AT (U O (ord a b))/\Below w.heap.size w w':=by
 go_enter Tryz.func157,Tryz.ntmps157;go_wp2_with fail;obtain⟨W,hW⟩:∃W,W=(w.alloc (By #[Y a.node,Y a.bq,Y a.name,Y a.tag,U O a.addr,U O a.port,Ia a.aj,U O a.version,Ia a.gone] 46)).alloc (By #[Y b.node,Y b.bq,Y b.name,Y b.tag,U O b.addr,U O b.port,Ia b.aj,U O b.version,Ia b.gone] 46):=⟨_,rfl⟩;rw[<- hW];have qV:Below w.heap.size w W:=by rw[hW];exact((Ib _ _).alloc (Ic _) _).alloc (by simp) _
 have sF:W.heap[w.heap.size]?=AI (By #[Y a.node,Y a.bq,Y a.name,Y a.tag,U O a.addr,U O a.port,Ia a.aj,U O a.version,Ia a.gone] 46 (0,0)):=by
  rw[hW,Below.heap_alloc _ _ _ (by simp)];exact Ii w _
 have nz:W.heap[w.heap.size+1]?=AI (By #[Y b.node,Y b.bq,Y b.name,Y b.tag,U O b.addr,U O b.port,Ia b.aj,U O b.version,Ia b.gone] 46 (0,0)):=by
  have h:=Ii (w.alloc (By #[Y a.node,Y a.bq,Y a.name,Y a.tag,U O a.addr,U O a.port,Ia a.aj,U O a.version,Ia a.gone] 46)) (By #[Y b.node,Y b.bq,Y b.name,Y b.tag,U O b.addr,U O b.port,Ia b.aj,U O b.version,Ia b.gone] 46);rw[hW];simpa using h
 have n0:W.cell? ⟨w.heap.size,0,be⟩=AI (Y a.node):=ae sF 0;have n1:W.cell? ⟨w.heap.size,1,be⟩=AI (Y a.bq):=ae sF 1;have m0:W.cell? ⟨w.heap.size+1,0,be⟩=AI (Y b.node):=ae nz 0;have m1:W.cell? ⟨w.heap.size+1,1,be⟩=AI (Y b.bq):=ae nz 1;have jA:Hid (Below w.heap.size w W):=qV;have MH:=qV.size;have h1:=QN W _ n0;have h2:=QN W _ n1;have h3:=QN W _ m0;have h4:=QN W _ m1;clear sF nz hW qV;go_region_held3 (λw'=>w'.cell? ⟨w.heap.size,0,be⟩=AI (Y a.node)/\w'.cell? ⟨w.heap.size,1,be⟩=AI (Y a.bq)/\w'.cell? ⟨w.heap.size+1,0,be⟩=AI (Y b.node)/\w'.cell? ⟨w.heap.size+1,1,be⟩=AI (Y b.bq)) (go_keep) (first|(go_at_call 49;refine(gr _ _ _).mono ?_;rintro e w' ⟨rfl,rfl⟩)|(go_at_call 129;refine(BA (bO a.node b.node) (bO a.bq b.bq) _ _ _ (wy rfl) (wy rfl)).mono ?_;rintro e w' ⟨rfl,rfl⟩))
 go_wp2_with fail;go_ret;exact⟨rfl,(jA.out.alloc MH _).drew⟩
theorem dW(a b:aW):bN a b=if a.version=b.version then(if a.gone=b.gone then(if a.name=b.name then(if a.tag=b.tag then(if a.addr=b.addr then(if a.port=b.port then(a.aj&&!b.aj) else decide (b.port<a.port)) else decide (b.addr<a.addr)) else less b.tag a.tag) else less b.name a.name) else a.gone) else decide (b.version<a.version):=by
 have hI:∀x y:Int,(x-y=0)↔x=y:=λx y=>by omega
 have hB:∀x y:Bool,(RL.bI x=RL.bI y)↔x=y:=λx y=>⟨λh=>RL.BG (by omega),λh=>by rw[h]⟩;have hP:∀x y:Int,(0<x-y)↔y<x:=λx y=>by omega
 have hL:∀x y:ByteArray,decide (0<bO x y)=less y x:=λx y=>by rw[Bool.eq_iff_iff,decide_eq_true_eq];exact mW x y
 have hG:∀x y:Bool,x≠y->decide (0<RL.bI x-RL.bI y)=x:=λx y h=>by cases x<;>cases y<;>simp[RL.bI] at h ⊢
 have hQ:∀x y:Bool,decide (0<RL.bI x-RL.bI y)=(x&&!y):=λx y=>by cases x<;>cases y<;>simp[RL.bI]
 simp only[bN,xp,RL.lex,hI,hB,bR];by_cases h1:a.version=b.version
 .simp only[if_pos h1]
  by_cases h2:a.gone=b.gone
  .simp only[if_pos h2]
   by_cases h3:a.name=b.name
   .simp only[if_pos h3]
    by_cases h4:a.tag=b.tag
    .simp only[if_pos h4]
     by_cases h5:a.addr=b.addr
     .simp only[if_pos h5]
      by_cases h6:a.port=b.port
      .simp only[if_pos h6];exact hQ _ _
      .simp only[if_neg h6,hP]
     .simp only[if_neg h5,hP]
    .simp only[if_neg h4];exact hL _ _
   .simp only[if_neg h3];exact hL _ _
  .simp only[if_neg h2];exact hG _ _ h2
 .simp only[if_neg h1,hP]
theorem Cy(f:Nat)(hf:f=172)(a_node:ByteArray)(a_idn:ByteArray)(a_name:ByteArray)(a_tag:ByteArray)(a_addr:Int)(a_port:Int)(a_passing:Bool)(a_version:Int)(a_gone:Bool)(b_node:ByteArray)(b_idn:ByteArray)(b_name:ByteArray)(b_tag:ByteArray)(b_addr:Int)(b_port:Int)(b_passing:Bool)(b_version:Int)(b_gone:Bool)(w:World) :
 kt f #[Ik #[Y a_node,Y a_idn,Y a_name,Y a_tag,U O a_addr,U O a_port,Ia a_passing,U O a_version,Ia a_gone],Ik #[Y b_node,Y b_idn,Y b_name,Y b_tag,U O b_addr,U O b_port,Ia b_passing,U O b_version,Ia b_gone]] w (Ia (bN ⟨a_node,a_idn,a_name,a_tag,a_addr,a_port,a_passing,a_version,a_gone⟩ ⟨b_node,b_idn,b_name,b_tag,b_addr,b_port,b_passing,b_version,b_gone⟩)):=by
 subst hf;have hB:Hid (Below w.heap.size w ((w.alloc (By #[Y a_node,Y a_idn,Y a_name,Y a_tag,U O a_addr,U O a_port,Ia a_passing,U O a_version,Ia a_gone] 46)).alloc (By #[Y b_node,Y b_idn,Y b_name,Y b_tag,U O b_addr,U O b_port,Ia b_passing,U O b_version,Ia b_gone] 46))):=((Ib _ _).alloc (Ic _) _).alloc (by simp) _;by_cases h1:a_version=b_version
 .subst h1
  by_cases h2:a_gone=b_gone
  .subst h2
   by_cases h3:a_name=b_name
   .subst h3
    by_cases h4:a_tag=b_tag
    .subst h4
     by_cases h5:a_addr=b_addr
     .subst h5
      by_cases h6:a_port=b_port
      .subst h6
       cases a_passing
       all_goals
        go_enter QP,Qx;go_wp2;go_ret;exact⟨aL (by rw[dW];simp),hB.out⟩
      .have h6':(a_port !=b_port)=true:=by simpa using h6
       go_enter QP,Qx;go_wp2;go_ret;exact⟨aL (by rw[dW];simp[h6]),hB.out⟩
     .have h5':(a_addr !=b_addr)=true:=by simpa using h5
      go_enter QP,Qx;go_wp2;go_ret;exact⟨aL (by rw[dW];simp[h5]),hB.out⟩
    .obtain⟨g1,g2⟩:=fP h4
     have H4:Hid (¬ a_tag=b_tag):=h4;clear h4;go_enter QP,Qx;go_wp2;go_ret;exact⟨aL (by rw[dW];simp[H4.out,less];exact pN H4.out),hB.out⟩
   .obtain⟨g1,g2⟩:=fP h3
    have H3:Hid (¬ a_name=b_name):=h3;clear h3;go_enter QP,Qx;go_wp2;go_ret;exact⟨aL (by rw[dW];simp[H3.out,less];exact pN H3.out),hB.out⟩
  .have hg:b_gone = !a_gone:=by cases a_gone<;>cases b_gone<;>simp at h2 ⊢
   subst hg;clear h2;cases a_gone
   all_goals
    go_enter QP,Qx;go_wp2;go_ret;exact⟨aL (by rw[dW];simp),hB.out⟩
 .have L2:(a_version !=b_version)=true:=by simpa using h1
  go_enter QP,Qx;go_wp2;go_ret;exact⟨aL (by rw[dW];simp[h1]),hB.out⟩
theorem gk(a b:aW)(w:World) :
 aF 172 #[Ik #[Y a.node,Y a.bq,Y a.name,Y a.tag,U O a.addr,U O a.port,Ia a.aj,U O a.version,Ia a.gone],Ik #[Y b.node,Y b.bq,Y b.name,Y b.tag,U O b.addr,U O b.port,Ia b.aj,U O b.version,Ia b.gone]] w λe w'=>e=AT (Ia (bN a b))/\Below w.heap.size w w':=
 Cy _ rfl a.node a.bq a.name a.tag a.addr a.port a.aj a.version a.gone b.node b.bq b.name b.tag b.addr b.port b.aj b.version b.gone w
end Sv
namespace Sv
open Go.RowKit
theorem jE(ms:List aW)(b off cap:Nat)(w:World)(hr:Row w b off ms)(hb:b<w.heap.size)(hn:ms.length<=40) :
 Calls AS 156 #[J (AI ⟨b,off,be⟩) ms.length cap,IP (.func 157) #[] #[]] w λe w'=>e=AT (Ia (aK ms))/\Below w.heap.size w w':=by
 have HR:Hid (Row w b off ms):=hr;clear hr;have H4:Hid (∀k,k+1<ms.length->0<=ord (ms.getD k dm) (ms.getD (k+1) dm)->aK ms=false):=λk hk hl=>by
  rcases h:aK ms with _|_
  .rfl
  .have:=fq ms h k hk;omega
 have H0:Hid ((∀j,j+1<ms.length->ord (ms.getD j dm) (ms.getD (j+1) dm)<0)->aK ms=true):=fp ms;generalize hN:ms.length=n at *;have HN:Hid (ms.length=n):=hN;clear hN;generalize hC:aK ms=res at *;have HC:Hid (aK ms=res):=hC;clear hC;go_enter Tryz.func156,Tryz.ntmps156;go_wp2_with fail;go_loopw [5] (λi w'=>∃k:Nat,(k+1<=n\/k=0)/\i=U O (k+1)/\Below w.heap.size w w'/\Hid (∀j,j<k->ord (ms.getD j dm) (ms.getD (j+1) dm)<0)) (λi _=>n-(intOf i).toNat)
 case atStart=>exact⟨0,.inr rfl,rfl,Ib _ _,λj h=>absurd h (Jl _)⟩
 case round=>
  obtain⟨q,hq,rfl,aN,hz⟩:=hrel;obtain⟨eG,nt⟩:=cj aN;have cC:=aN.size;by_cases aR:q+1<n
  .have F:=((HR.out q (by rw[HN.out];omega)).eq (λo=>eG b o hb)).re
   have G:=((HR.out (q+1) (by rw[HN.out];exact aR)).eq (λo=>eG b o hb)).re;have HK:Hid (0<=ord (ms.getD q dm) (ms.getD (q+1) dm)->res=false):=λh=>H4.out q aR h;have HZ:Hid (ord (ms.getD q dm) (ms.getD (q+1) dm)<0->∀j,j<q+1->ord (ms.getD j dm) (ms.getD (j+1) dm)<0):=λh j hj=>by
    rcases I8.1 hj with h2|rfl
    .exact hz.out j h2
    .exact h
   generalize ms.getD q dm=m1 at *;generalize ms.getD (q+1) dm=m2 at *;have hN:∀d os,Calls AS 157 #[Ik #[Y m1.node,Y m1.bq,Y m1.name,Y m1.tag,U O m1.addr,U O m1.port,Ia m1.aj,U O m1.version,Ia m1.gone],Ik #[Y m2.node,Y m2.bq,Y m2.name,Y m2.tag,U O m2.addr,U O m2.port,Ia m2.aj,U O m2.version,Ia m2.gone]] (Ij (Iv wr d) os) λe fD=>e=AT (U O (ord m1 m2))/\∃p:JI,fD=Ij (Iv wr p.d) p.os:=λd os=>IU (dh m1 m2 _);simp only[As] at F G;clear eG nt;generalize ord m1 m2=r at *;have Gt:IntKind.i64.wrap (q:Int)=(q:Int):=by rw[IntKind.wrap_i64];omega
   have Ea:q<n:=by omega
   have hq1:(q:Int)+1<(n:Int):=by omega
   have hq0:(0:Int)<=(q:Int)+1:=by omega
   have DW:((q:Int)+1).toNat=q+1:=by omega
   go_wp2_with fail;refine IA (by kernel_rfl) (by kernel_rfl) ?_;repeat(quiet_step (exact hN _ _))
   refine bE λdq gT dR=>?_;clear hN F G;by_cases hl:r<0
   .have mo:¬ (0<=r):=by omega
    go_wp2_with fail;go_roundw
    case rel=>exact⟨q+1,.inl (by omega),by go_num,aN.trans (dR.out.mono cC),HZ.out hl⟩
    case measure=>simp[intOf];omega
   .have mo:0<=r:=by omega
    have h4:Hid (res=false):=HK.out mo;go_wp2_with fail;go_ret;exact⟨aL h4.out.symm,aN.trans (dR.out.mono cC)⟩
  .have h0:Hid (res=true):=H0.out λj hj=>hz.out j (by omega)
   go_wp2_with fail;go_ret;exact⟨aL h0.out.symm,aN⟩
theorem gm(a:Option Addr)(cap:Nat)(fv:Value)(w:World) :
 Calls AS 156 #[J a 0 cap,fv] w λe w'=>e=AT (Ia true)/\w'=w:=by
 go_enter Tryz.func156,Tryz.ntmps156;go_wp2_with fail;go_loop [5] (λi=>i=U O 1) (λ_=>0)
 case atStart=>rfl
 case round=>
  subst hrel;go_wp2_with fail;go_ret;exact⟨rfl,rfl⟩
theorem gn(ms:List aW)(b off cap:Nat)(lk:aW)(w:World)(hr:Row w b off ms)(hb:b<w.heap.size)(hn:ms.length<=80)(gW:∀i j,i<=j->j<ms.length->ord (ms.getD j dm) lk<0->ord (ms.getD i dm) lk<0) :
 Calls AS 244 #[J (AI ⟨b,off,be⟩) ms.length cap,Ik #[Y lk.node,Y lk.bq,Y lk.name,Y lk.tag,U O lk.addr,U O lk.port,Ia lk.aj,U O lk.version,Ia lk.gone],IP (.func 157) #[] #[]] w λe w'=>∃(p:Nat) (f:Bool),e=AT (Im #[U O p,Ia f])/\Below w.heap.size w w' /\
  p<=ms.length/\(∀j,j<p->ord (ms.getD j dm) lk<0)/\(∀j,p<=j->j<ms.length->0<=ord (ms.getD j dm) lk)/\(f=true↔p<ms.length/\ord (ms.getD p dm) lk=0):=by
 have HR:Hid (Row w b off ms):=hr;clear hr;have HM:Hid _:=gW;clear gW;generalize hN:ms.length=n at *;have HN:Hid (ms.length=n):=hN;clear hN;go_enter Tryz.func244,Tryz.ntmps244;go_wp2_with fail;obtain⟨W0,bA,bM,eE,dF⟩:=bV w #[Y lk.node,Y lk.bq,Y lk.name,Y lk.tag,U O lk.addr,U O lk.port,Ia lk.aj,U O lk.version,Ia lk.gone] 46;have El:Hid (Row W0 b off ms):=HR.out.later bM hb;have HT:Hid (As W0 w.heap.size 0 lk):=⟨ae dF 0,ae dF 1,ae dF 2,ae dF 3,ae dF 4,ae dF 5,ae dF 6,ae dF 7,ae dF 8⟩;have cY:Hid (Below w.heap.size w W0):=bM;have sI:Hid (W0=w.alloc (By #[Y lk.node,Y lk.bq,Y lk.name,Y lk.tag,U O lk.addr,U O lk.port,Ia lk.aj,U O lk.version,Ia lk.gone] 46)):=bA;clear dF bM HR bA;have wA:b<w.heap.size+1:=by omega
 go_loopw [9,10] (λi j w'=>∃k l:Nat,k<=l/\l<=n/\i=U O k/\j=U O l/\Below (w.heap.size+1) W0 w'/\Hid (∀j,j<k->ord (ms.getD j dm) lk<0)/\Hid (∀j,l<=j->j<n->0<=ord (ms.getD j dm) lk)) (λi j _=>(intOf j).toNat-(intOf i).toNat)
 case atStart=>exact⟨0,n,IH _,Ic _,rfl,rfl,by rw[sI.out];exact Ib _ _,λj h=>absurd h (Jl _),λj h1 h2=>by omega⟩
 case round=>
  obtain⟨k,l,iI,KG,rfl,rfl,aN,yd,ye⟩:=hrel;have cC:=aN.size;have eG:∀b o,b<w.heap.size+1->wr.cell? ⟨b,o,be⟩=W0.cell? ⟨b,o,be⟩:=λb o h=>aN.cell (p:=⟨b,o,be⟩) h;have G:=(HT.out.eq (λo=>eG w.heap.size o (by omega))).re;simp only[As,ID] at G;by_cases aR:k<l
  .obtain⟨h,hh,h1,h2⟩:∃h:Nat,((k:Int)+(l:Int))/2=(h:Int)/\k<=h/\h<l:=⟨(k+l)/2,by omega,by omega,by omega⟩
   have F:=((El.out h (by rw[HN.out];omega)).eq (λo=>eG b o wA)).re;have po:=HM.out;have HK:Hid (ord (ms.getD h dm) lk<0->∀j,j<h+1->ord (ms.getD j dm) lk<0):=λhx j hj=>po j h (by omega) (by omega) hx;have HL:Hid (0<=ord (ms.getD h dm) lk->∀j,h<=j->j<n->0<=ord (ms.getD j dm) lk):=λhx j hj Cz=>by
    apply Int.not_lt.1;intro hq;have:=po h j hj Cz hq;omega
   clear po;have hhn:h<n:=by omega
   generalize ms.getD h dm=m at *;have hO:∀d os,Calls AS 157 #[Ik #[Y m.node,Y m.bq,Y m.name,Y m.tag,U O m.addr,U O m.port,Ia m.aj,U O m.version,Ia m.gone],Ik #[Y lk.node,Y lk.bq,Y lk.name,Y lk.tag,U O lk.addr,U O lk.port,Ia lk.aj,U O lk.version,Ia lk.gone]] (Ij (Iv wr d) os) λe fD=>e=AT (U O (ord m lk))/\∃p:JI,fD=Ij (Iv wr p.d) p.os:=λd os=>IU (dh m lk _);simp only[As] at F;clear eG;generalize ord m lk=r at *;go_wp2_with fail;refine IA (by kernel_rfl) (by kernel_rfl) ?_;repeat(quiet_step (exact hO _ _))
   refine bE λdq gT dR=>?_;clear hO F G;by_cases uV:r<0
   .go_wp2_with fail
    exact⟨⟨h+1,l,by omega,by omega,by go_num,rfl,aN.trans (dR.out.mono (by omega)),HK.out uV,ye⟩,by simp[intOf];omega⟩
   .have zv:0<=r:=by omega
    go_wp2_with fail;exact⟨⟨k,h,by omega,by omega,rfl,rfl,aN.trans (dR.out.mono (by omega)),yd,HL.out zv⟩,by simp[intOf];omega⟩
  .have BZ:l=k:=by omega
   subst BZ;by_cases gK:l<n
   .have F:=((El.out l (by rw[HN.out];omega)).eq (λo=>eG b o wA)).re
    generalize hm:ms.getD l dm=m at *;have Hm:Hid (ms.getD l dm=m):=hm;clear hm;have hO:∀d os,Calls AS 157 #[Ik #[Y m.node,Y m.bq,Y m.name,Y m.tag,U O m.addr,U O m.port,Ia m.aj,U O m.version,Ia m.gone],Ik #[Y lk.node,Y lk.bq,Y lk.name,Y lk.tag,U O lk.addr,U O lk.port,Ia lk.aj,U O lk.version,Ia lk.gone]] (Ij (Iv wr d) os) λe fD=>e=AT (U O (ord m lk))/\∃p:JI,fD=Ij (Iv wr p.d) p.os:=λd os=>IU (dh m lk _);simp only[As] at F;clear eG;generalize EY:ord m lk=r at *;have Hr:Hid (ord m lk=r):=EY;clear EY;go_wp2_with fail;refine IA (by kernel_rfl) (by kernel_rfl) ?_;repeat(quiet_step (exact hO _ _))
    refine bE λdq gT dR=>?_;clear hO F G;go_wp2_with fail;go_ret2;refine⟨l,_,rfl,cY.out.trans ((aN.trans (dR.out.mono (by omega))).mono (by omega)),by omega,yd.out,ye.out,?_⟩;rw[Hm.out,Hr.out];simp[gK]
   .clear G
    have hkd:decide ((l:Int)<(n:Int))=false:=by simp;omega
    go_wp2_with fail;go_quiet (fail)
    go_wp2_with fail;go_ret2;refine⟨l,_,rfl,cY.out.trans ((Jc aN _).mono (by omega)),by omega,yd.out,ye.out,?_⟩;simp[gK]
theorem fw(a:Option Addr)(cap:Nat)(lk:aW)(fv:Value)(w:World) :
 Calls AS 244 #[J a 0 cap,Ik #[Y lk.node,Y lk.bq,Y lk.name,Y lk.tag,U O lk.addr,U O lk.port,Ia lk.aj,U O lk.version,Ia lk.gone],fv] w λe w'=>e=AT (Im #[U O 0,Ia false])/\Below w.heap.size w w':=by
 go_enter Tryz.func244,Tryz.ntmps244;go_wp2_with fail;go_loop [9,10] (λi j=>i=U O 0/\j=U O 0) (λ_ _=>0)
 case atStart=>exact⟨rfl,rfl⟩
 case round=>
  obtain⟨rfl,rfl⟩:=hrel;go_wp2_with fail;go_quiet (fail)
  go_wp2_with fail;go_ret2;exact⟨rfl,Jc ((Ib _ _).alloc (Ic _) _) _⟩
theorem fx(ms:List aW)(v:Value)(lk:aW)(w:World)(h:Sl w v ms)(hn:ms.length<=80)(gW:∀i j,i<=j->j<ms.length->ord (ms.getD j dm) lk<0->ord (ms.getD i dm) lk<0) :
 Calls AS 244 #[v,Ik #[Y lk.node,Y lk.bq,Y lk.name,Y lk.tag,U O lk.addr,U O lk.port,Ia lk.aj,U O lk.version,Ia lk.gone],IP (.func 157) #[] #[]] w λe w'=>∃(p:Nat) (f:Bool),e=AT (Im #[U O p,Ia f])/\Below w.heap.size w w'/\At ms lk p f:=by
 obtain⟨a,cap,rfl,hs,h⟩:=h;rcases h with rfl|⟨b,off,rfl,hb,hr⟩
 .refine(fw a cap lk _ w).mono ?_
  rintro e w' ⟨rfl,hb⟩;exact⟨0,false,rfl,hb,⟨by simp,λj h=>by omega,λj h h2=>by simp at h2,by simp⟩⟩
 .refine(gn ms b off cap lk w hr hb hn gW).mono ?_
  rintro e w' ⟨p,f,rfl,aN,g1,g2,g3,g4⟩;exact⟨p,f,rfl,aN,⟨g1,g2,g3,g4⟩⟩
theorem fm(ms:List aW)(v:Value)(lk:aW)(w:World)(h:Sl w v ms)(hn:ms.length<=80)(hr:bl ms) :
 Calls AS 213 #[v,Ik #[Y lk.node,Y lk.bq,Y lk.name,Y lk.tag,U O lk.addr,U O lk.port,Ia lk.aj,U O lk.version,Ia lk.gone],IP (.func 157) #[] #[]] w λe w'=>∃(p:Nat) (f:Bool),e=AT (Im #[U O p,Ia f])/\Below w.heap.size w w'/\At ms lk p f:=by
 have HC:Hid (∀w',Below w.heap.size w w'->Calls AS 244 #[v,Ik #[Y lk.node,Y lk.bq,Y lk.name,Y lk.tag,U O lk.addr,U O lk.port,Ia lk.aj,U O lk.version,Ia lk.gone],IP (.func 157) #[] #[]] w' λe fD=>∃(p:Nat) (f:Bool),e=AT (Im #[U O p,Ia f])/\Below w'.heap.size w' fD/\At ms lk p f):=
  λw' hb=>fx ms v lk w' (h.below hb) hn (dO hr lk)
 clear h hn hr;go_enter Tryz.func213,Tryz.ntmps213;go_wp2_with (go_at_call 244;refine(HC.out _ ?hb).mono ?_)
 case hb=>exact(Ib _ _).alloc (Ic _) _
 rintro e w' ⟨p,f,rfl,aN,cH⟩;have fb:Hid (At ms lk p f):=cH;clear cH;go_wp2_with fail;go_ret2;exact⟨p,f,rfl,((Ib _ _).alloc (Ic _) _).trans (aN.mono (by simp)),fb.out⟩
end Sv
namespace Sv
open Go.RowKit
theorem lM{a b:List aW}(gH:a.length<=40)(gE:b.length<=40)(k:Nat):(dE a b k).length<=80:=by
 unfold dE;split
 .simp
 .split
  .omega
  .have:=df b a;omega
structure Bn(w:World)(pb:Nat)(a b:List aW)(k:Nat)(l:List aW)(pk:Option Addr)(ck:Nat):Prop where
 cell:w.cell? ⟨pb,k,be⟩=AI (J pk l.length ck)
 row:l=[]\/∃b off,pk=AI ⟨b,off,be⟩/\b<w.heap.size/\Row w b off l
 H8:∀m∈l,(m).ok
 len:l.length<=40
 Bo:(dE a b k).length<=40
 tm:bl (dE a b k)
 Bp:∀m∈dE a b k,(m).ok
 step:dE a b (k+1)=av (dE a b k) l
theorem oq{a b:List aW}{va vb:Value}{pb:Nat}{w:World}(ha:Sl w va a)(hb:Sl w vb b)(hc0:w.cell? ⟨pb,0,be⟩=AI va)(hc1:w.cell? ⟨pb,1,be⟩=AI vb)(gH:a.length<=40)(gE:b.length<=40)(ra:bl a)(k:Nat)(hk:k<2) :
 ∃l pk ck,Bn w pb a b k l pk ck:=by
 obtain⟨pa,ca,rfl,Ka,ha⟩:=ha;obtain⟨pv,cb,rfl,Sj,hb⟩:=hb;have gi:k=0\/k=1:=by omega
 rcases gi with rfl|rfl
 .exact⟨a,pa,ca,hc0,ha,dt Ka,gH,by simp[dE],by simp[dE],by simp[dE],(iu a ra).symm⟩
 .exact⟨b,pv,cb,hc1,hb,dt Sj,gE,gH,ra,dt Ka,rfl⟩
theorem iv(a b:List aW)(va vb:Value)(pb cap:Nat)(w:World)(ha:Sl w va a)(hb:Sl w vb b)(hpb:pb<w.heap.size)(hc0:w.cell? ⟨pb,0,be⟩=AI va)(hc1:w.cell? ⟨pb,1,be⟩=AI vb)(gH:a.length<=40)(gE:b.length<=40)(ra:bl a) :
 Calls AS 171 #[IP (.func 157) #[] #[],IP (.func 172) #[] #[],J (AI ⟨pb,0,be⟩) 2 cap] w λe w'=>∃v',e=AT v'/\Own w.heap.size w' v' (av a b)/\Below w.heap.size w w':=by
 have HK:Hid (∀k,k<2->∃l pk ck,Bn w pb a b k l pk ck):=λk hk=>oq ha hb hc0 hc1 gH gE ra k hk;have uG:Hid (∀k,(dE a b k).length<=80):=lM gH gE;clear ha hb hc0 hc1 gH gE ra;go_enter Tryz.func171,Tryz.ntmps171;go_wp2_with fail;go_loopw [7,16] (λkn i w'=>∃k:Nat,k<=2/\i=U O k/\Below w.heap.size w w'/\Hid (Own w.heap.size w' kn (dE a b k))) (λ_ i _=>2-(intOf i).toNat)
 case atStart=>exact⟨0,by omega,rfl,Ib _ _,bX _ _⟩
 case round=>
  obtain⟨k,hk,rfl,aN,HO⟩:=hrel;obtain⟨eG,nt⟩:=cj aN;have cC:=aN.size;by_cases jd:k<2
  .obtain⟨l,pk,ck,ot⟩:=HK.out k jd
   have ou:Hid (Bn w pb a b k l pk ck):=ot;have fS:=ot.cell;clear ot;generalize qW:l.length=nl at *;have jZ:Hid (l.length=nl):=qW;clear qW;have Kb:nl<=40:=by have:=ou.out.len;have:=jZ.out;omega
   have Sk:(k:Int)<2:=by omega
   go_wp2_with fail;go_loopw [7,22] (λkn j w'=>∃q:Nat,q<=nl/\j=U O q/\Below w.heap.size w w'/\Hid (Own w.heap.size w' kn (av (dE a b k) (l.take q)))) (λ_ j _=>nl-(intOf j).toNat)
   case atStart=>exact⟨0,IH _,rfl,aN,HO⟩
   case round=>
    clear eG nt cC aN HO fS;obtain⟨q,hq,rfl,aN,HO⟩:=hrel;obtain⟨eG,nt⟩:=cj aN;have cC:=aN.size;by_cases aR:q<nl
    .obtain⟨b2,off,Bq,PC,cO⟩:∃wY off,pk=AI ⟨wY,off,be⟩/\wY<w.heap.size/\Row w wY off l:=by
      rcases ou.out.row with h|h
      .have:=jZ.out;rw[h] at this;simp at this;omega
      .exact h
     subst Bq;obtain⟨c0,c1,c2,c3,c4,c5,c6,c7,c8⟩:=cO q (by rw[jZ.out];exact aR);clear cO;have HJ:Hid (av (dE a b k) (l.take (q+1))=aQ (av (dE a b k) (l.take q)) (l.getD q dm)):=gj (dE a b k) l q (by rw[jZ.out];exact aR);have HR:Hid (bl (av (dE a b k) (l.take q))):=dD _ _ ou.out.tm;have ML:Hid (∀j,((av (dE a b k) (l.take q)).getD j dm).ok):=cy (iJ _ _ ou.out.Bp (λx hx=>ou.out.H8 x (List.mem_of_mem_take hx)));have HL:Hid ((av (dE a b k) (l.take q)).length<=80):=by
      have h1:=df (l.take q) (dE a b k);have h2:(l.take q).length<=q:=List.length_take_le _ _;have h3:=ou.out.Bo;show(av (dE a b k) (l.take q)).length<=80;omega
     generalize l.getD q dm=m at *;generalize av (dE a b k) (l.take q)=known at *;have D9:known.length<=80:=HL.out;obtain⟨W1,cQ,aB,fh,cI⟩:=bV wr #[Y m.node,Y m.bq,Y m.name,Y m.tag,U O m.addr,U O m.port,Ia m.aj,U O m.version,Ia m.gone] 46;have lz:Hid (Own w.heap.size W1 u7 known):=HO.out.below aB;have HF:Hid (Calls AS 213 #[u7,Ik #[Y m.node,Y m.bq,Y m.name,Y m.tag,U O m.addr,U O m.port,Ia m.aj,U O m.version,Ia m.gone],IP (.func 157) #[] #[]] W1 λe w'=>∃(p:Nat) (f:Bool),e=AT (Im #[U O p,Ia f])/\Below W1.heap.size W1 w'/\At known m p f):=
      fm known u7 m W1 (lz.out.sl ML.out) HL.out HR.out
     have aY:Hid (Below w.heap.size w W1):=aN.trans (aB.mono cC);have HT:Hid (As W1 wr.heap.size 0 m):=⟨ae cI 0,ae cI 1,ae cI 2,ae cI 3,ae cI 4,ae cI 5,ae cI 6,ae cI 7,ae cI 8⟩;have nV:Hid _:=cQ;have uP:w.heap.size<=W1.heap.size:=by omega
     clear cI aB HO HL HR cQ;go_wp2_with fail;rw[<- nV.out];refine HF.out.mono ?_;rintro e w2 ⟨p,f,rfl,aI,cH⟩;have fb:Hid _:=cH;have Sm:=cH.le;have Sn:=aI.size;have gZ:Hid (Own _ _ _ _):=lz.out.below aI;have bp:Hid _:=aY.out.trans (aI.mono uP);have wM:Hid (As w2 wr.heap.size 0 m):=HT.out.eq (λo=>aI.cell (p:=⟨wr.heap.size,o,be⟩) (by show wr.heap.size<W1.heap.size;omega));obtain⟨t0,t1,t2,t3,t4,t5,t6,t7,t8⟩:w2.cell? ⟨wr.heap.size,0,be⟩=AI (Y m.node)/\w2.cell? ⟨wr.heap.size,1,be⟩=AI (Y m.bq)/\w2.cell? ⟨wr.heap.size,2,be⟩=AI (Y m.name)/\w2.cell? ⟨wr.heap.size,3,be⟩=AI (Y m.tag)/\w2.cell? ⟨wr.heap.size,4,be⟩=AI (U O m.addr)/\w2.cell? ⟨wr.heap.size,5,be⟩=AI (U O m.port)/\w2.cell? ⟨wr.heap.size,6,be⟩=AI (Ia m.aj)/\w2.cell? ⟨wr.heap.size,7,be⟩=AI (U O m.version)/\w2.cell? ⟨wr.heap.size,8,be⟩=AI (Ia m.gone):=wM.out;have iU:w.heap.size<=w2.heap.size:=by omega
     have Br:wr.heap.size<w2.heap.size:=by omega
     clear cH HF eG nt c0 c1 c2 c3 c4 c5 c6 c7 c8 aI lz aY HT;cases f
     .have aT:Hid (u7.ownBlock≠AI w2.heap.size):=λe=>by have:=gZ.out.lt _ e;omega
      have dY:Hid (Own w.heap.size (w2.alloc (By #[Y m.node,Y m.bq,Y m.name,Y m.tag,U O m.addr,U O m.port,Ia m.aj,U O m.version,Ia m.gone] 46)) u7 known):=gZ.out.below ((Ib _ _).alloc (Ic _) _);have o5:Hid ((w2.alloc (By #[Y m.node,Y m.bq,Y m.name,Y m.tag,U O m.addr,U O m.port,Ia m.aj,U O m.version,Ia m.gone] 46)).heap[w2.heap.size]?=AI (By m.cs.toArray 46 (0,0))):=Ii w2 _;go_wp2_with (go_at_call 214;refine(fk w.heap.size p w2.heap.size u7 known m _ dY.out fb.out.le (by omega) (by simp;omega) o5.out aT.out).mono ?_;rintro e w4 ⟨v',rfl,g1,g2⟩);go_roundw
      case rel=>
       have ja:∃ov:Nat,ov<=nl/\U O ((q:Int)+1)=U O ov/\Below w.heap.size w w4/\Hid (Own w.heap.size w4 v' (av (dE a b k) (l.take ov))):=⟨q+1,by omega,by go_num,fe (bp.out.alloc iU _) dY.out g2 (by simp;omega),by rw[HJ.out,da known m p false fb.out];exact g1⟩;first|exact ja|((repeat apply Exists.intro);exact⟨ja,rfl⟩)
      case measure=>simp[intOf];omega
     .have hp:p<known.length:=(fb.out.is.1 rfl).1
      obtain⟨g,c,hu⟩:=jH gZ.out p hp;subst hu;have F:=(ez gZ.out p hp).re;have di:=gZ.out.lt g rfl;have MN:g<w2.heap.size:=di.2;generalize hm:known.getD p dm=m2 at *;have Hm:Hid _:=hm;clear hm;have hN:∀d os,Calls AS 172 #[Ik #[Y m.node,Y m.bq,Y m.name,Y m.tag,U O m.addr,U O m.port,Ia m.aj,U O m.version,Ia m.gone],Ik #[Y m2.node,Y m2.bq,Y m2.name,Y m2.tag,U O m2.addr,U O m2.port,Ia m2.aj,U O m2.version,Ia m2.gone]] (Ij (Iv w2 d) os) λe fD=>e=AT (Ia (bN m m2))/\∃p:JI,fD=Ij (Iv w2 p.d) p.os:=λd os=>IU (gk m m2 _);have G:=wM.out.re;simp only[As,ID] at F G;have qT:∀o,w2.frozen? ⟨g,o,be⟩=false:=λo=>World.ownsRow.frozenAt gZ.out o;have TR:Hid _:=qT;clear qT t0 t1 t2 t3 t4 t5 t6 t7 t8;generalize Kc:bN m m2=nw at *;have Kd:Hid _:=Kc;clear Kc;go_wp2_with fail;refine IA (by kernel_rfl) (by kernel_rfl) ?_;repeat(quiet_step (exact hN _ _))
      refine bE λdq gT dR=>?_;clear hN F G;cases nw
      .go_wp2_with fail
       go_roundw
       case rel=>
        have ja:∃ov:Nat,ov<=nl/\U O ((q:Int)+1)=U O ov/\Below w.heap.size w (Ij (Iv w2 dq) gT)/\Hid (Own w.heap.size (Ij (Iv w2 dq) gT) (J (AI ⟨g,0,be⟩) known.length c) (av (dE a b k) (l.take ov))):=⟨q+1,by omega,by go_num,bp.out.trans (dR.out.mono iU),by rw[HJ.out,da known m p true fb.out,if_pos rfl,Hm.out,if_neg (λh=>Bool.false_ne_true (Kd.out.symm.trans h))];exact gZ.out.below dR.out⟩;first|exact ja|((repeat apply Exists.intro);exact⟨ja,rfl⟩)
       case measure=>simp[intOf];omega
      .generalize Ij (Iv w2 dq) gT=w3 at *
       have dY:Hid (Own _ _ _ _):=gZ.out.below dR.out;obtain⟨c0,c1,c2,c3,c4,c5,c6,c7,c8⟩:=ez dY.out p hp;rw[Hm.out] at c0 c1 c2 c3 c4 c5 c6 c7 c8;have lh:=(dY.out.lt g rfl).2;have qT:∀o,w3.frozen? ⟨g,o,be⟩=false:=λo=>World.ownsRow.frozenAt dY.out o;obtain⟨s0,s1,s2,s3,s4,s5,s6,s7,s8⟩:w3.cell? ⟨wr.heap.size,0,be⟩=AI (Y m.node)/\w3.cell? ⟨wr.heap.size,1,be⟩=AI (Y m.bq)/\w3.cell? ⟨wr.heap.size,2,be⟩=AI (Y m.name)/\w3.cell? ⟨wr.heap.size,3,be⟩=AI (Y m.tag)/\w3.cell? ⟨wr.heap.size,4,be⟩=AI (U O m.addr)/\w3.cell? ⟨wr.heap.size,5,be⟩=AI (U O m.port)/\w3.cell? ⟨wr.heap.size,6,be⟩=AI (Ia m.aj)/\w3.cell? ⟨wr.heap.size,7,be⟩=AI (U O m.version)/\w3.cell? ⟨wr.heap.size,8,be⟩=AI (Ia m.gone):=wM.out.eq (λo=>dR.out.cell (p:=⟨wr.heap.size,o,be⟩) Br);go_wp2_with fail;refine⟨⟨q+1,by omega,by go_num,?_,?_⟩,by simp[intOf];omega⟩
       .exact((((((((((bp.out.trans (dR.out.mono iU)).setCell (p:=⟨g,p*9,be⟩) di.1 (Y m.node)).setCell (p:=⟨g,p*9+1,be⟩) di.1 (Y m.bq)).setCell (p:=⟨g,p*9+2,be⟩) di.1 (Y m.name)).setCell (p:=⟨g,p*9+3,be⟩) di.1 (Y m.tag)).setCell (p:=⟨g,p*9+4,be⟩) di.1 (U O m.addr)).setCell (p:=⟨g,p*9+5,be⟩) di.1 (U O m.port)).setCell (p:=⟨g,p*9+6,be⟩) di.1 (Ia m.aj)).setCell (p:=⟨g,p*9+7,be⟩) di.1 (U O m.version)).setCell (p:=⟨g,p*9+8,be⟩) di.1 (Ia m.gone))
       .rw[HJ.out,da known m p true fb.out,if_pos rfl,Hm.out,if_pos Kd.out]
        exact lq dY.out hp m
    .have Ea:q=nl:=by omega
     subst Ea;have dY:Hid (Own w.heap.size wr u7 (dE a b (k+1))):=by
      have h:=HO.out;rw[List.take_of_length_le (by rw[jZ.out];exact Ic _)] at h;rw[ou.out.step];exact h
     go_wp2_with fail;go_roundw
     case rel=>exact⟨k+1,by omega,by go_num,aN,dY⟩
     case measure=>simp[intOf];omega
  .have jw:k=2:=by omega
   subst jw;go_wp2_with fail;go_ret;exact⟨_,rfl,HO.out,aN⟩
end Sv
namespace Sv
open Go.RowKit
theorem Pg(t:ByteArray)(W:World)(g:Nat)(hs:t.size<=maxLen)(hg:W.heap[g]?=AI (By #[Y t] 9 (0,0))) :
 Calls AS 205 #[J (AI ⟨g,0,be⟩) 1 1] W λe w'=>e=AT (Ia (lE t))/\w'=W:=LJ t W g hs hg
def Gc(m:aW):Bool:=[m.node,m.bq,m.name].all ba
theorem aW.aaP(m:aW):m.e=if Gc m=true then(if lE m.tag=true then(if within m.addr 0 4294967295=true then(if within m.port 0 65535=true then(if within m.version 1 1000000=true then 0 else 3) else 3) else 3) else 1) else 1:=by
 unfold aW.e Gc;simp only[List.all_cons,List.all_nil,Bool.and_true];cases ba m.node<;>cases ba m.bq<;>cases ba m.name<;>cases lE m.tag<;>cases within m.addr 0 4294967295<;>cases within m.port 0 65535<;>cases within m.version 1 1000000<;>rfl
theorem Al(m:aW)(hm:m.ok)(W:World)(g:Nat)(hg:W.heap[g]?=AI (By #[Y m.node,Y m.bq,Y m.name] 9 (0,0))) :
 Calls AS 34 #[J (AI ⟨g,0,be⟩) 3 3] W λe w'=>e=AT (Ia (Gc m))/\w'=W:=by
 refine om [m.node,m.bq,m.name] g 3 W (λj hj=>?_) (λj=>?_) (by simp)
 .rw[ae hg]
  have:j=0\/j=1\/j=2:=by simp at hj;omega
  rcases this with rfl|rfl|rfl<;>rfl
 .obtain⟨h1,h2,h3,h4⟩:=hm
  match j with
  |0=>exact h1
  |1=>exact h2
  |2=>exact h3
  |_+3=>simp[List.getD]
theorem fV(m:aW)(w:World)(hm:m.ok) :
 Calls AS 155 #[Ik #[Y m.node,Y m.bq,Y m.name,Y m.tag,U O m.addr,U O m.port,Ia m.aj,U O m.version,Ia m.gone]] w λe w'=>e=AT (U O m.e)/\Below w.heap.size w w':=by
 have hs:m.tag.size<=maxLen:=hm.2.2.2;have hB:Hid (Below w.heap.size w ((w.alloc (By #[Y m.node,Y m.bq,Y m.name,Y m.tag,U O m.addr,U O m.port,Ia m.aj,U O m.version,Ia m.gone] 46)).alloc (By #[Y m.node,Y m.bq,Y m.name] 9))):=((Ib _ _).alloc (Ic _) _).alloc (by simp) _;have hg:((w.alloc (By #[Y m.node,Y m.bq,Y m.name,Y m.tag,U O m.addr,U O m.port,Ia m.aj,U O m.version,Ia m.gone] 46)).alloc (By #[Y m.node,Y m.bq,Y m.name] 9)).heap[w.heap.size+1]?=AI (By #[Y m.node,Y m.bq,Y m.name] 9 (0,0)):=by
  have h:=Ii (w.alloc (By #[Y m.node,Y m.bq,Y m.name,Y m.tag,U O m.addr,U O m.port,Ia m.aj,U O m.version,Ia m.gone] 46)) (By #[Y m.node,Y m.bq,Y m.name] 9);simpa using h
 have HL:Hid (Calls AS 34 #[J (AI ⟨w.heap.size+1,0,be⟩) 3 3] ((w.alloc (By #[Y m.node,Y m.bq,Y m.name,Y m.tag,U O m.addr,U O m.port,Ia m.aj,U O m.version,Ia m.gone] 46)).alloc (By #[Y m.node,Y m.bq,Y m.name] 9)) λe w'=>e=AT (Ia (Gc m))/\w'=(w.alloc (By #[Y m.node,Y m.bq,Y m.name,Y m.tag,U O m.addr,U O m.port,Ia m.aj,U O m.version,Ia m.gone] 46)).alloc (By #[Y m.node,Y m.bq,Y m.name] 9)):=Al m hm _ _ hg;clear hg;have hB3:Hid (Below w.heap.size w (((w.alloc (By #[Y m.node,Y m.bq,Y m.name,Y m.tag,U O m.addr,U O m.port,Ia m.aj,U O m.version,Ia m.gone] 46)).alloc (By #[Y m.node,Y m.bq,Y m.name] 9)).alloc (By #[Y m.tag] 9))):=hB.out.alloc (by simp;omega) _;have lh:(((w.alloc (By #[Y m.node,Y m.bq,Y m.name,Y m.tag,U O m.addr,U O m.port,Ia m.aj,U O m.version,Ia m.gone] 46)).alloc (By #[Y m.node,Y m.bq,Y m.name] 9)).alloc (By #[Y m.tag] 9)).heap[w.heap.size+2]?=AI (By #[Y m.tag] 9 (0,0)):=by
  have h:=Ii ((w.alloc (By #[Y m.node,Y m.bq,Y m.name,Y m.tag,U O m.addr,U O m.port,Ia m.aj,U O m.version,Ia m.gone] 46)).alloc (By #[Y m.node,Y m.bq,Y m.name] 9)) (By #[Y m.tag] 9);simpa using h
 have HT:Hid (Calls AS 205 #[J (AI ⟨w.heap.size+2,0,be⟩) 1 1] (((w.alloc (By #[Y m.node,Y m.bq,Y m.name,Y m.tag,U O m.addr,U O m.port,Ia m.aj,U O m.version,Ia m.gone] 46)).alloc (By #[Y m.node,Y m.bq,Y m.name] 9)).alloc (By #[Y m.tag] 9)) λe w'=>e=AT (Ia (lE m.tag))/\w'=(((w.alloc (By #[Y m.node,Y m.bq,Y m.name,Y m.tag,U O m.addr,U O m.port,Ia m.aj,U O m.version,Ia m.gone] 46)).alloc (By #[Y m.node,Y m.bq,Y m.name] 9)).alloc (By #[Y m.tag] 9))):=Pg m.tag _ _ hs lh;clear lh;have HD:Hid (m.e=if Gc m=true then(if lE m.tag=true then(if within m.addr 0 4294967295=true then(if within m.port 0 65535=true then(if within m.version 1 1000000=true then 0 else 3) else 3) else 3) else 1) else 1):=m.aaP;clear hm;rcases h1:Gc m with _|_
 .go_enter Tryz.func155,Tryz.ntmps155
  go_wp2_with (go_at_call 34;refine HL.out.mono ?_;rintro e w' ⟨rfl,rfl⟩;rw[h1]);go_ret;exact⟨ai (by rw[HD.out];simp[h1]),hB.out⟩
 .rcases h2:lE m.tag with _|_
  .go_enter Tryz.func155,Tryz.ntmps155
   go_wp2_with (first|(go_at_call 34;refine HL.out.mono ?_;rintro e w' ⟨rfl,rfl⟩;rw[h1])|(go_at_call 205;refine HT.out.mono ?_;rintro e w' ⟨rfl,rfl⟩;rw[h2]));go_ret;exact⟨ai (by rw[HD.out];simp[h1,h2]),hB3.out⟩
  .rcases h3:within m.addr 0 4294967295 with _|_
   .go_enter Tryz.func155,Tryz.ntmps155
    go_wp2_with (first|(go_at_call 34;refine HL.out.mono ?_;rintro e w' ⟨rfl,rfl⟩;rw[h1])|(go_at_call 205;refine HT.out.mono ?_;rintro e w' ⟨rfl,rfl⟩;rw[h2])|(go_at_call 35;refine(eF _ _).mono ?_;rintro e w' ⟨rfl,rfl⟩;rw[h3]));go_ret;exact⟨ai (by rw[HD.out];simp[h1,h2,h3]),hB3.out⟩
   .rcases h4:within m.port 0 65535 with _|_
    .go_enter Tryz.func155,Tryz.ntmps155
     go_wp2_with (first|(go_at_call 34;refine HL.out.mono ?_;rintro e w' ⟨rfl,rfl⟩;rw[h1])|(go_at_call 205;refine HT.out.mono ?_;rintro e w' ⟨rfl,rfl⟩;rw[h2])|(go_at_call 35;refine(eF _ _).mono ?_;rintro e w' ⟨rfl,rfl⟩;rw[h3])|(go_at_call 54;refine(cf _ _ _ _).mono ?_;rintro e w' ⟨rfl,rfl⟩;rw[h4]));go_ret;exact⟨ai (by rw[HD.out];simp[h1,h2,h3,h4]),hB3.out⟩
    .rcases h5:within m.version 1 1000000 with _|_
     all_goals
      go_enter Tryz.func155,Tryz.ntmps155;go_wp2_with (first|(go_at_call 34;refine HL.out.mono ?_;rintro e w' ⟨rfl,rfl⟩;rw[h1])|(go_at_call 205;refine HT.out.mono ?_;rintro e w' ⟨rfl,rfl⟩;rw[h2])|(go_at_call 35;refine(eF _ _).mono ?_;rintro e w' ⟨rfl,rfl⟩;rw[h3])|(go_at_call 54;refine(cf _ _ _ _).mono ?_;rintro e w' ⟨rfl,rfl⟩;first|rw[h4]|rw[h5]));go_ret;exact⟨ai (by rw[HD.out];simp[h1,h2,h3,h4,h5]),hB3.out⟩
theorem iG(ms:List aW)(b off cap:Nat)(w:World)(hr:Row w b off ms)(hb:b<w.heap.size)(hn:ms.length<=40)(hs:∀j,(ms.getD j dm).ok) :
 Calls AS 99 #[J (AI ⟨b,off,be⟩) ms.length cap] w λe w'=>e=AT (U O (bj ms))/\Below w.heap.size w w':=by
 have HR:Hid (Row w b off ms):=hr;have HE:Hid (∀k,k<ms.length->(∀j,j<k->(ms.getD j dm).e=0)->(ms.getD k dm).e≠0->bj ms=(ms.getD k dm).e):=λk h1 h2 h3=>tC ms k hn h1 h2 h3;have H4:Hid ((∀j,j<ms.length->(ms.getD j dm).e=0)->bj ms=if aK ms=true then 0 else 4):=λh1=>qZ ms hn h1;have KL:Hid (∀w',Below w.heap.size w w'->Calls _ _ _ _ _):=λw' Ay=>jE ms b off cap w' (hr.later Ay hb) (IJ hb Ay.size) hn;clear hr;generalize hN:ms.length=n at *;have HN:Hid _:=hN;clear hN;have HS:Hid _:=hs;clear hs;generalize hC:bj ms=res at *;have HC:Hid _:=hC;clear hC;generalize KM:aK ms=rb at *;have L8:Hid _:=KM;clear KM;go_enter Tryz.func99,Tryz.ntmps99;go_wp2_with fail;go_loopw [11] (λi w'=>∃k:Nat,k<=n/\i=U O k/\Below w.heap.size w w'/\Hid (∀j,j<k->(ms.getD j dm).e=0)) (λi _=>n-(intOf i).toNat)
 case atStart=>exact⟨0,IH _,rfl,Ib _ _,λj h=>absurd h (Jl _)⟩
 case round=>
  obtain⟨k,hk,rfl,aN,hz⟩:=hrel;obtain⟨eG,nt⟩:=cj aN;have cC:=aN.size;by_cases aR:k<n
  .obtain⟨c0,c1,c2,c3,c4,c5,c6,c7,c8⟩:=HR.out k (by rw[HN.out];exact aR)
   have Dl:Hid _:=HS.out k;have HK:Hid ((ms.getD k dm).e≠0->res=(ms.getD k dm).e):=λh=>HE.out k aR hz.out h;have HZ:Hid ((ms.getD k dm).e=0->∀j,j<k+1->(ms.getD j dm).e=0):=λh j hj=>by
    rcases I8.1 hj with h2|rfl
    .exact hz.out j h2
    .exact h
   generalize ms.getD k dm=m at *;have HO:Hid (∀w,Calls _ _ _ _ _):=λw=>fV m w Dl.out;generalize m.e=me at *;rcases he:decide (me=0) with _|_
   .have kG:(me !=0)=true:=by simpa using he
    clear he;go_wp2_with (go_at_call 155;refine(HO.out _).mono ?_;rintro e w' ⟨rfl,aI⟩);go_ret;have aT:me≠0:=by simpa using kG
    have sL:=HK.out aT;exact⟨ai sL.symm,(aN.alloc cC _).trans (aI.mono (by simp;omega))⟩
   .have kG:(me !=0)=false:=by simpa using he
    clear he;go_wp2_with (go_at_call 155;refine(HO.out _).mono ?_;rintro e w' ⟨rfl,aI⟩);go_roundw
    case rel=>
     have P0:me=0:=by simpa using kG
     exact⟨k+1,by omega,by go_num,(aN.alloc cC _).trans (aI.mono (by simp;omega)),HZ.out P0⟩
    case measure=>simp[intOf];omega
  .have kp:Hid (∀j,j<n->(ms.getD j dm).e=0):=λj hj=>hz.out j (by omega)
   have oB:Hid _:=H4.out kp.out;clear hz kp H4 HE HC L8;cases rb
   .go_wp2_with (go_at_call 156;refine(KL.out _ aN).mono ?_;rintro e w' ⟨rfl,aI⟩)
    go_ret;exact⟨ai (by rw[oB.out];rfl),aN.trans (aI.mono cC)⟩
   .go_wp2_with (go_at_call 156;refine(KL.out _ aN).mono ?_;rintro e w' ⟨rfl,aI⟩)
    go_ret;exact⟨ai (by rw[oB.out];rfl),aN.trans (aI.mono cC)⟩
theorem gp(a:Option Addr)(n cap:Nat)(w:World)(hn:40<n) :
 Calls AS 99 #[J a n cap] w λe w'=>e=AT (U O 2)/\w'=w:=by
 go_enter Tryz.func99,Tryz.ntmps99;go_wp2_with fail;go_ret;exact⟨rfl,rfl⟩
theorem gq(a:Option Addr)(cap:Nat)(w:World) :
 Calls AS 99 #[J a 0 cap] w λe w'=>e=AT (U O 0)/\w'=w:=by
 go_enter Tryz.func99,Tryz.ntmps99;go_wp2_with fail;go_loop [11] (λi=>i=U O 0) (λ_=>0)
 case atStart=>rfl
 case round=>
  subst hrel;go_wp2_with (go_at_call 156;refine(gm _ _ _ _).mono ?_;rintro e w' ⟨rfl,rfl⟩);go_ret;exact⟨rfl,rfl⟩
theorem bo(ms:List aW)(v:Value)(w:World)(h:Sl w v ms) :
 Calls AS 99 #[v] w λe w'=>e=AT (U O (bj ms))/\Below w.heap.size w w':=by
 obtain⟨a,cap,rfl,hs,h⟩:=h;by_cases hn:40<ms.length
 .refine(gp a ms.length cap w hn).mono ?_
  rintro e w' ⟨rfl,rfl⟩;exact⟨ai (by rw[bj,if_pos hn]),Ib _ _⟩
 .rcases h with rfl|⟨b,off,rfl,hb,hr⟩
  .refine(gq a cap w).mono ?_
   rintro e w' ⟨rfl,rfl⟩;exact⟨rfl,Ib _ _⟩
  .exact iG ms b off cap w hr hb (by omega) hs
theorem dJ(a b:List aW)(va vb:Value)(pb cap:Nat)(w:World)(ha:Sl w va a)(hb:Sl w vb b)(hpb:pb<w.heap.size)(hc0:w.cell? ⟨pb,0,be⟩=AI va)(hc1:w.cell? ⟨pb,1,be⟩=AI vb) :
 Calls AS 170 #[J (AI ⟨pb,0,be⟩) 2 cap] w λe w'=>e=AT (U O (aO a b))/\Below w.heap.size w w':=by
 have HA:Hid (Sl w va a):=ha;have HB:Hid (Sl w vb b):=hb;clear ha hb;go_enter Tryz.func170,Tryz.ntmps170;go_wp2_with fail;go_loopw [8] (λi w'=>∃k:Nat,k<=2/\i=U O k/\Below w.heap.size w w'/\Hid (0<k->bj a=0)/\Hid (1<k->bj b=0)) (λi _=>2-(intOf i).toNat)
 case atStart=>exact⟨0,by omega,rfl,Ib _ _,λh=>by omega,λh=>by omega⟩
 case round=>
  obtain⟨k,hk,rfl,aN,dd,cX⟩:=hrel;obtain⟨eG,nt⟩:=cj aN;have cC:=aN.size;have Gn:Hid (Sl wr va a):=HA.out.below aN;have Gp:Hid (Sl wr vb b):=HB.out.below aN;have gi:k=0\/k=1\/k=2:=by omega
  rcases gi with rfl|rfl|rfl
  .rcases he:decide (bj a=0) with _|_
   .have kG:(bj a !=0)=true:=by simpa using he
    clear he;go_wp2_with (go_at_call 99;refine(bo a _ _ Gn.out).mono ?_;rintro e w' ⟨rfl,aI⟩);go_ret;exact⟨ai (by have h0:bj a≠0:=(by simpa using kG);rw[aO,if_neg h0]),aN.trans (aI.mono cC)⟩
   .have kG:(bj a !=0)=false:=by simpa using he
    clear he;go_wp2_with (go_at_call 99;refine(bo a _ _ Gn.out).mono ?_;rintro e w' ⟨rfl,aI⟩);go_roundw
    case rel=>exact⟨1,by omega,by go_num,aN.trans (aI.mono cC),λ_=>(by simpa using kG),λh=>by omega⟩
    case measure=>simp[intOf]
  .have h0:Hid _:=dd.out (by omega)
   rcases he:decide (bj b=0) with _|_
   .have kG:(bj b !=0)=true:=by simpa using he
    clear he;go_wp2_with (go_at_call 99;refine(bo b _ _ Gp.out).mono ?_;rintro e w' ⟨rfl,aI⟩);go_ret;exact⟨ai (by rw[aO,if_pos h0.out]),aN.trans (aI.mono cC)⟩
   .have kG:(bj b !=0)=false:=by simpa using he
    clear he;go_wp2_with (go_at_call 99;refine(bo b _ _ Gp.out).mono ?_;rintro e w' ⟨rfl,aI⟩);go_roundw
    case rel=>exact⟨2,by omega,by go_num,aN.trans (aI.mono cC),λ_=>h0.out,λ_=>(by simpa using kG)⟩
    case measure=>simp[intOf]
  .go_wp2_with fail
   go_ret;exact⟨ai (by rw[aO,if_pos (dd.out (by omega)),cX.out (by omega)]),aN⟩
theorem mI(a b:List aW)(va vb:Value)(pb cap:Nat)(w:World)(ha:Sl w va a)(hb:Sl w vb b)(hpb:pb<w.heap.size)(hc0:w.cell? ⟨pb,0,be⟩=AI va)(hc1:w.cell? ⟨pb,1,be⟩=AI vb)(aT:aO a b≠0) :
 Calls AS 109 #[J (AI ⟨pb,0,be⟩) 2 cap] w λe w'=>e=AT (Im #[J be 0 0,U O (aE a b)])/\Below w.heap.size w w':=by
 have he:(aO a b !=0)=true:=by simpa using aT
 have HE:Hid (aE a b=aO a b):=if_neg aT;have pM:=dJ a b va vb pb cap w ha hb hpb hc0 hc1;have HC:Hid (Calls _ _ _ _ _):=pM;clear pM ha hb aT;go_enter Tryz.func109,Tryz.ntmps109;go_wp2_with (go_at_call 170;refine HC.out.mono ?_;rintro e w' ⟨rfl,aI⟩);go_ret2;exact⟨by rw[HE.out];rfl,aI⟩
theorem kN(a b:List aW)(va vb:Value)(pb cap:Nat)(w:World)(ha:Sl w va a)(hb:Sl w vb b)(hpb:pb<w.heap.size)(hc0:w.cell? ⟨pb,0,be⟩=AI va)(hc1:w.cell? ⟨pb,1,be⟩=AI vb)(h0:aO a b=0) :
 Calls AS 109 #[J (AI ⟨pb,0,be⟩) 2 cap] w λe w'=>∃v',e=AT (Im #[v',U O (aE a b)])/\Below w.heap.size w w' /\
  (40<(av a b).length->v'=J be 0 0)/\((av a b).length<=40->Own w.heap.size w' v' (av a b)):=by
 have he:(aO a b !=0)=false:=by simpa using h0
 have Dn:bj a=0:=by unfold aO at h0;split at h0<;>assumption
 have P1:bj b=0:=by unfold aO at h0;rw[if_pos Dn] at h0;exact h0
 have za:=af Dn;have zb:=af P1;have HE:Hid (aE a b=if 40<(av a b).length then 2 else 0):=if_pos h0;have HC:Hid (Calls _ _ _ _ _):=dJ a b va vb pb cap w ha hb hpb hc0 hc1;have HJ:Hid (∀w1,Below w.heap.size w w1->Calls AS 171 #[IP (.func 157) #[] #[],IP (.func 172) #[] #[],J (AI ⟨pb,0,be⟩) 2 cap] w1 λe w'=>∃v',e=AT v'/\Own w1.heap.size w' v' (av a b)/\Below w1.heap.size w1 w'):=λw1 aB=>
  iv a b va vb pb cap w1 (ha.below aB) (hb.below aB) (IJ hpb aB.size) ((cj aB).1 pb 0 hpb |>.trans hc0) ((cj aB).1 pb 1 hpb |>.trans hc1) za.1 zb.1 za.2.1
 have D9:(av a b).length<=80:=by have h1:=df b a;have h2:=za.1;have h3:=zb.1;omega
 clear h0 Dn P1 za zb ha hb hc0 hc1;generalize av a b=jl at *;generalize GV:jl.length=n at *;have Ww:Hid _:=GV;clear GV;go_enter Tryz.func109,Tryz.ntmps109;go_wp2_with (go_at_call 170;refine HC.out.mono ?_;rintro e w1 ⟨rfl,aB⟩);refine(HJ.out w1 aB).mono ?_;rintro e w2 ⟨v',rfl,ho,aI⟩;have zD:∃p c,v'=J p n c:=by
  have hn:=Ww.out;rcases ho.2 with⟨h,h0⟩|⟨g,c,cur,h,_⟩
  .exact⟨be,0,by rw[h];congr 1;omega⟩
  .exact⟨_,c,by rw[h,hn]⟩
 obtain⟨p,c,rfl⟩:=zD;have P2:Hid _:=aB.trans (aI.mono aB.size);have dY:Hid (Own _ _ _ _):=ho.mono aB.size;clear ho aB aI HC HJ;by_cases aR:40<n
 .go_wp2_with fail
  go_ret2;refine⟨_,by rw[HE.out,if_pos aR];rfl,P2.out,λ_=>rfl,λh=>by omega⟩
 .go_wp2_with fail
  go_ret2;refine⟨J p n c,by rw[HE.out,if_neg aR];rfl,P2.out,λh=>by omega,λ_=>dY.out⟩
end Sv
end Go.Proofs.YtfidhgjmifendaaGreatDoor
