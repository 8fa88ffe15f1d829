import Derived.Test.YtfidhgjmifendaaGreatDoorns7
set_option maxHeartbeats 4000000
set_option maxRecDepth 100000
open Go.Obj renaming cells→By
open Option renaming none→be,some→AI
open Go.Value renaming int→U,slice→J,agg→Ij,string→Y,bool→Ia,func→IT,tuple→Ik
open Go.IntKind renaming i64→O,wrap_i64→IW
open Go.Ending renaming returned→AT
open Go.Proofs.Tryz renaming ntmps129→Q3,func172→QP,ntmps172→Qx,prog→AS
open Go renaming wp_loop_rounds→M2,rounds_succ→JR,heap_alloc_new→Ih,redrawn→Iz,Regrown→JT,wp_region_quiet_below→IG,maxLen→Il
open Go.RowKit.Below renaming refl→Ib
open Nat renaming le_refl→Ic,not_lt_zero→Jv,lt_succ_iff_lt_or_eq→Jh,zero_le→IP,zero_add→IC,lt_of_lt_of_le→IL
open Go.World renaming new_ne→QN
open Go.Sort renaming grow→Im
open Go.Calls renaming regrown_of→IZ
open List renaming mem_of_mem_take→Jd,length_take_le→JL,take_of_length_le→Jk,all_eq_true→OJ,getElem_of_mem→IX,getD→Ip,getElem?_eq_getElem→If,getElem_mem→IJ
open Exists renaming intro→Qk
open Go.World.ownsRow renaming frozenAt→I7
open ByteArray renaming empty→Iv
namespace Go.Proofs.YtfidhgjmifendaaGreatDoor
namespace Sv
open Go.RowKit
theorem xa{W:World}{cs:Array Value}{t:TypeId}{g k:Nat}(hg:g=W.heap.size):(W.alloc (By cs t)).cell? ⟨g,k,be⟩=cs[k]?:=by subst hg;simp
theorem AO{a b:ByteArray}(h:¬ a=b):Op.bytesLess a.toList b.toList = !Op.bytesLess b.toList a.toList:=by
 have h1:=sW b.toList a.toList;rw[(mK h).1,Bool.or_false] at h1;exact h1.symm
def M3(a b:Int):Int:=if a=0 then b else a
theorem BN(a b:Int)(g:Nat)(c:Nat)(w:World)(h0:w.cell? ⟨g,0,be⟩=AI (U O a))(h1:w.cell? ⟨g,1,be⟩=AI (U O b)) :
 aI 129 #[J (AI ⟨g,0,be⟩) 2 c] w λe w'=>e=AT (U O (M3 a b))/\w'=w:=by
 by_cases ha:a=0
 .subst ha
  by_cases hb:b=0
  .subst hb
   go_enter Tryz.func129,Q3;go_wp2_with fail;refine M2 3 ?_;rw[JR];go_wp2_with fail;rw[JR];go_wp2_with fail;rw[JR];go_wp2_with fail;go_ret;exact⟨rfl,rfl⟩
  .have xb:(b !=0)=true:=by simpa using hb
   go_enter Tryz.func129,Q3;go_wp2_with fail;refine M2 3 ?_;rw[JR];go_wp2_with fail;rw[JR];go_wp2_with fail;go_ret;exact⟨rfl,rfl⟩
 .have ha':(a !=0)=true:=by simpa using ha
  go_enter Tryz.func129,Q3;go_wp2_with fail;refine M2 3 ?_;rw[JR];go_wp2_with fail;go_ret;exact⟨ai (by unfold M3;rw[if_neg ha]),rfl⟩
theorem dt(a b:aY)(w:World) :
 aI 157 #[Ij #[Y a.node,Y a.bP,Y a.name,Y a.tag,U O a.addr,U O a.port,Ia a.an,U O a.version,Ia a.gone],Ij #[Y b.node,Y b.bP,Y b.name,Y b.tag,U O b.addr,U O b.port,Ia b.an,U O b.version,Ia b.gone]] w λe w'=>e=AT (U O (ord a b))/\Below w.heap.size w w':=by
 go_enter Tryz.func157,Tryz.ntmps157;go_wp2_with fail;obtain⟨W,hW⟩:∃W,W=(w.alloc (By #[Y a.node,Y a.bP,Y a.name,Y a.tag,U O a.addr,U O a.port,Ia a.an,U O a.version,Ia a.gone] 46)).alloc (By #[Y b.node,Y b.bP,Y b.name,Y b.tag,U O b.addr,U O b.port,Ia b.an,U O b.version,Ia b.gone] 46):=⟨_,rfl⟩;rw[<- hW];have rL:Below w.heap.size w W:=by rw[hW];exact((Ib _ _).alloc (Ic _) _).alloc (by simp) _
 have VZ:W.heap[w.heap.size]?=AI (By #[Y a.node,Y a.bP,Y a.name,Y a.tag,U O a.addr,U O a.port,Ia a.an,U O a.version,Ia a.gone] 46 (0,0)):=by
  rw[hW,Below.heap_alloc _ _ _ (by simp)];exact Ih w _
 have Bq:W.heap[w.heap.size+1]?=AI (By #[Y b.node,Y b.bP,Y b.name,Y b.tag,U O b.addr,U O b.port,Ia b.an,U O b.version,Ia b.gone] 46 (0,0)):=by
  have h:=Ih (w.alloc (By #[Y a.node,Y a.bP,Y a.name,Y a.tag,U O a.addr,U O a.port,Ia a.an,U O a.version,Ia a.gone] 46)) (By #[Y b.node,Y b.bP,Y b.name,Y b.tag,U O b.addr,U O b.port,Ia b.an,U O b.version,Ia b.gone] 46);rw[hW];simpa using h
 have n0:W.cell? ⟨w.heap.size,0,be⟩=AI (Y a.node):=ae VZ 0;have n1:W.cell? ⟨w.heap.size,1,be⟩=AI (Y a.bP):=ae VZ 1;have m0:W.cell? ⟨w.heap.size+1,0,be⟩=AI (Y b.node):=ae Bq 0;have m1:W.cell? ⟨w.heap.size+1,1,be⟩=AI (Y b.bP):=ae Bq 1;have qN:Hid (Below w.heap.size w W):=rL;have MN:=rL.size;have h1:=QN W _ n0;have h2:=QN W _ n1;have h3:=QN W _ m0;have h4:=QN W _ m1;clear VZ Bq hW rL;go_region_held3 (λw'=>w'.cell? ⟨w.heap.size,0,be⟩=AI (Y a.node)/\w'.cell? ⟨w.heap.size,1,be⟩=AI (Y a.bP)/\w'.cell? ⟨w.heap.size+1,0,be⟩=AI (Y b.node)/\w'.cell? ⟨w.heap.size+1,1,be⟩=AI (Y b.bP)) (go_keep) (first|(go_at_call 49;refine(gE _ _ _).mono ?_;rintro e w' ⟨rfl,rfl⟩)|(go_at_call 129;refine(BN (bR a.node b.node) (bR a.bP b.bP) _ _ _ (xa rfl) (xa rfl)).mono ?_;rintro e w' ⟨rfl,rfl⟩))
 go_wp2_with fail;go_ret;exact⟨rfl,(qN.out.alloc MN _).drew⟩
theorem jj(a b:aY):bT a b=if a.version=b.version then(if a.gone=b.gone then(if a.name=b.name then(if a.tag=b.tag then(if a.addr=b.addr then(if a.port=b.port then(a.an&&!b.an) else decide (b.port<a.port)) else decide (b.addr<a.addr)) else less b.tag a.tag) else less b.name a.name) else a.gone) else decide (b.version<a.version):=by
 have hI:∀x y:Int,(x-y=0)↔x=y:=λx y=>by omega
 have hB:∀x y:Bool,(RL.bI x=RL.bI y)↔x=y:=λx y=>⟨λh=>RL.BF (by omega),λh=>by rw[h]⟩;have hP:∀x y:Int,(0<x-y)↔y<x:=λx y=>by omega
 have hL:∀x y:ByteArray,decide (0<bR x y)=less y x:=λx y=>by rw[Bool.eq_iff_iff,decide_eq_true_eq];exact nD x y
 have hG:∀x y:Bool,x≠y->decide (0<RL.bI x-RL.bI y)=x:=λx y h=>by cases x<;>cases y<;>simp[RL.bI] at h ⊢
 have hQ:∀x y:Bool,decide (0<RL.bI x-RL.bI y)=(x&&!y):=λx y=>by cases x<;>cases y<;>simp[RL.bI]
 simp only[bT,xH,RL.lex,hI,hB,bQ];by_cases h1:a.version=b.version
 .simp only[if_pos h1]
  by_cases h2:a.gone=b.gone
  .simp only[if_pos h2]
   by_cases h3:a.name=b.name
   .simp only[if_pos h3]
    by_cases h4:a.tag=b.tag
    .simp only[if_pos h4]
     by_cases h5:a.addr=b.addr
     .simp only[if_pos h5]
      by_cases h6:a.port=b.port
      .simp only[if_pos h6];exact hQ _ _
      .simp only[if_neg h6,hP]
     .simp only[if_neg h5,hP]
    .simp only[if_neg h4];exact hL _ _
   .simp only[if_neg h3];exact hL _ _
  .simp only[if_neg h2];exact hG _ _ h2
 .simp only[if_neg h1,hP]
theorem CS(f:Nat)(hf:f=172)(a_node:ByteArray)(a_idn:ByteArray)(a_name:ByteArray)(a_tag:ByteArray)(a_addr:Int)(a_port:Int)(a_passing:Bool)(a_version:Int)(a_gone:Bool)(b_node:ByteArray)(b_idn:ByteArray)(b_name:ByteArray)(b_tag:ByteArray)(b_addr:Int)(b_port:Int)(b_passing:Bool)(b_version:Int)(b_gone:Bool)(w:World) :
 kL f #[Ij #[Y a_node,Y a_idn,Y a_name,Y a_tag,U O a_addr,U O a_port,Ia a_passing,U O a_version,Ia a_gone],Ij #[Y b_node,Y b_idn,Y b_name,Y b_tag,U O b_addr,U O b_port,Ia b_passing,U O b_version,Ia b_gone]] w (Ia (bT ⟨a_node,a_idn,a_name,a_tag,a_addr,a_port,a_passing,a_version,a_gone⟩ ⟨b_node,b_idn,b_name,b_tag,b_addr,b_port,b_passing,b_version,b_gone⟩)):=by
 subst hf;have hB:Hid (Below w.heap.size w ((w.alloc (By #[Y a_node,Y a_idn,Y a_name,Y a_tag,U O a_addr,U O a_port,Ia a_passing,U O a_version,Ia a_gone] 46)).alloc (By #[Y b_node,Y b_idn,Y b_name,Y b_tag,U O b_addr,U O b_port,Ia b_passing,U O b_version,Ia b_gone] 46))):=((Ib _ _).alloc (Ic _) _).alloc (by simp) _;by_cases h1:a_version=b_version
 .subst h1
  by_cases h2:a_gone=b_gone
  .subst h2
   by_cases h3:a_name=b_name
   .subst h3
    by_cases h4:a_tag=b_tag
    .subst h4
     by_cases h5:a_addr=b_addr
     .subst h5
      by_cases h6:a_port=b_port
      .subst h6
       cases a_passing
       all_goals
        go_enter QP,Qx;go_wp2;go_ret;exact⟨aW (by rw[jj];simp),hB.out⟩
      .have h6':(a_port !=b_port)=true:=by simpa using h6
       go_enter QP,Qx;go_wp2;go_ret;exact⟨aW (by rw[jj];simp[h6]),hB.out⟩
     .have h5':(a_addr !=b_addr)=true:=by simpa using h5
      go_enter QP,Qx;go_wp2;go_ret;exact⟨aW (by rw[jj];simp[h5]),hB.out⟩
    .obtain⟨g1,g2⟩:=mK h4
     have H4:Hid (¬ a_tag=b_tag):=h4;clear h4;go_enter QP,Qx;go_wp2;go_ret;exact⟨aW (by rw[jj];simp[H4.out,less];exact AO H4.out),hB.out⟩
   .obtain⟨g1,g2⟩:=mK h3
    have H3:Hid (¬ a_name=b_name):=h3;clear h3;go_enter QP,Qx;go_wp2;go_ret;exact⟨aW (by rw[jj];simp[H3.out,less];exact AO H3.out),hB.out⟩
  .have hg:b_gone = !a_gone:=by cases a_gone<;>cases b_gone<;>simp at h2 ⊢
   subst hg;clear h2;cases a_gone
   all_goals
    go_enter QP,Qx;go_wp2;go_ret;exact⟨aW (by rw[jj];simp),hB.out⟩
 .have Np:(a_version !=b_version)=true:=by simpa using h1
  go_enter QP,Qx;go_wp2;go_ret;exact⟨aW (by rw[jj];simp[h1]),hB.out⟩
theorem gu(a b:aY)(w:World) :
 aI 172 #[Ij #[Y a.node,Y a.bP,Y a.name,Y a.tag,U O a.addr,U O a.port,Ia a.an,U O a.version,Ia a.gone],Ij #[Y b.node,Y b.bP,Y b.name,Y b.tag,U O b.addr,U O b.port,Ia b.an,U O b.version,Ia b.gone]] w λe w'=>e=AT (Ia (bT a b))/\Below w.heap.size w w':=
 CS _ rfl a.node a.bP a.name a.tag a.addr a.port a.an a.version a.gone b.node b.bP b.name b.tag b.addr b.port b.an b.version b.gone w
end Sv
namespace Sv
open Go.RowKit
theorem jQ(ms:List aY)(b off cap:Nat)(w:World)(hr:Row w b off ms)(hb:b<w.heap.size)(hn:ms.length<=40) :
 Calls AS 156 #[J (AI ⟨b,off,be⟩) ms.length cap,IT (.func 157) #[] #[]] w λe w'=>e=AT (Ia (aM ms))/\Below w.heap.size w w':=by
 have HR:Hid (Row w b off ms):=hr;clear hr;have H4:Hid (∀k,k+1<ms.length->0<=ord (ms.getD k dm) (ms.getD (k+1) dm)->aM ms=false):=λk hk hl=>by
  rcases h:aM ms with _|_
  .rfl
  .have:=fE ms h k hk;omega
 have H0:Hid ((∀j,j+1<ms.length->ord (ms.getD j dm) (ms.getD (j+1) dm)<0)->aM ms=true):=fD ms;generalize hN:ms.length=n at *;have HN:Hid (ms.length=n):=hN;clear hN;generalize hC:aM ms=res at *;have HC:Hid (aM ms=res):=hC;clear hC;go_enter Tryz.func156,Tryz.ntmps156;go_wp2_with fail;go_loopw [5] (λi w'=>∃k:Nat,(k+1<=n\/k=0)/\i=U O (k+1)/\Below w.heap.size w w'/\Hid (∀j,j<k->ord (ms.getD j dm) (ms.getD (j+1) dm)<0)) (λi _=>n-(intOf i).toNat)
 case atStart=>exact⟨0,.inr rfl,rfl,Ib _ _,λj h=>absurd h (Jv _)⟩
 case round=>
  obtain⟨q,hq,rfl,aR,hz⟩:=hrel;obtain⟨eM,nQ⟩:=cC aR;have cI:=aR.size;by_cases aX:q+1<n
  .have F:=((HR.out q (by rw[HN.out];omega)).eq (λo=>eM b o hb)).re
   have G:=((HR.out (q+1) (by rw[HN.out];exact aX)).eq (λo=>eM b o hb)).re;have HK:Hid (0<=ord (ms.getD q dm) (ms.getD (q+1) dm)->res=false):=λh=>H4.out q aX h;have HZ:Hid (ord (ms.getD q dm) (ms.getD (q+1) dm)<0->∀j,j<q+1->ord (ms.getD j dm) (ms.getD (j+1) dm)<0):=λh j hj=>by
    rcases Jh.1 hj with h2|rfl
    .exact hz.out j h2
    .exact h
   generalize ms.getD q dm=m1 at *;generalize ms.getD (q+1) dm=m2 at *;have hN:∀d os,Calls AS 157 #[Ij #[Y m1.node,Y m1.bP,Y m1.name,Y m1.tag,U O m1.addr,U O m1.port,Ia m1.an,U O m1.version,Ia m1.gone],Ij #[Y m2.node,Y m2.bP,Y m2.name,Y m2.tag,U O m2.addr,U O m2.port,Ia m2.an,U O m2.version,Ia m2.gone]] (Im (Iz wr d) os) λe fT=>e=AT (U O (ord m1 m2))/\∃p:JT,fT=Im (Iz wr p.d) p.os:=λd os=>IZ (dt m1 m2 _);simp only[As] at F G;clear eM nQ;generalize ord m1 m2=r at *;have GQ:IntKind.i64.wrap (q:Int)=(q:Int):=by rw[IW];omega
   have EF:q<n:=by omega
   have hq1:(q:Int)+1<(n:Int):=by omega
   have hq0:(0:Int)<=(q:Int)+1:=by omega
   have Et:((q:Int)+1).toNat=q+1:=by omega
   go_wp2_with fail;refine IG (by kernel_rfl) (by kernel_rfl) ?_;repeat(quiet_step (exact hN _ _))
   refine bM λdq jL ee=>?_;clear hN F G;by_cases hl:r<0
   .have mJ:¬ (0<=r):=by omega
    go_wp2_with fail;go_roundw
    case rel=>exact⟨q+1,.inl (by omega),by go_num,aR.trans (ee.out.mono cI),HZ.out hl⟩
    case measure=>simp[intOf];omega
   .have mJ:0<=r:=by omega
    have h4:Hid (res=false):=HK.out mJ;go_wp2_with fail;go_ret;exact⟨aW h4.out.symm,aR.trans (ee.out.mono cI)⟩
  .have h0:Hid (res=true):=H0.out λj hj=>hz.out j (by omega)
   go_wp2_with fail;go_ret;exact⟨aW h0.out.symm,aR⟩
theorem gz(a:Option Addr)(cap:Nat)(fv:Value)(w:World) :
 Calls AS 156 #[J a 0 cap,fv] w λe w'=>e=AT (Ia true)/\w'=w:=by
 go_enter Tryz.func156,Tryz.ntmps156;go_wp2_with fail;go_loop [5] (λi=>i=U O 1) (λ_=>0)
 case atStart=>rfl
 case round=>
  subst hrel;go_wp2_with fail;go_ret;exact⟨rfl,rfl⟩
theorem gA(ms:List aY)(b off cap:Nat)(lk:aY)(w:World)(hr:Row w b off ms)(hb:b<w.heap.size)(hn:ms.length<=80)(ij:∀i j,i<=j->j<ms.length->ord (ms.getD j dm) lk<0->ord (ms.getD i dm) lk<0) :
 Calls AS 244 #[J (AI ⟨b,off,be⟩) ms.length cap,Ij #[Y lk.node,Y lk.bP,Y lk.name,Y lk.tag,U O lk.addr,U O lk.port,Ia lk.an,U O lk.version,Ia lk.gone],IT (.func 157) #[] #[]] w λe w'=>∃(p:Nat) (f:Bool),e=AT (Ik #[U O p,Ia f])/\Below w.heap.size w w' /\
  p<=ms.length/\(∀j,j<p->ord (ms.getD j dm) lk<0)/\(∀j,p<=j->j<ms.length->0<=ord (ms.getD j dm) lk)/\(f=true↔p<ms.length/\ord (ms.getD p dm) lk=0):=by
 have HR:Hid (Row w b off ms):=hr;clear hr;have HM:Hid _:=ij;clear ij;generalize hN:ms.length=n at *;have HN:Hid (ms.length=n):=hN;clear hN;go_enter Tryz.func244,Tryz.ntmps244;go_wp2_with fail;obtain⟨W0,bN,bO,eK,dI⟩:=bY w #[Y lk.node,Y lk.bP,Y lk.name,Y lk.tag,U O lk.addr,U O lk.port,Ia lk.an,U O lk.version,Ia lk.gone] 46;have ET:Hid (Row W0 b off ms):=HR.out.later bO hb;have HT:Hid (As W0 w.heap.size 0 lk):=⟨ae dI 0,ae dI 1,ae dI 2,ae dI 3,ae dI 4,ae dI 5,ae dI 6,ae dI 7,ae dI 8⟩;have db:Hid (Below w.heap.size w W0):=bO;have tj:Hid (W0=w.alloc (By #[Y lk.node,Y lk.bP,Y lk.name,Y lk.tag,U O lk.addr,U O lk.port,Ia lk.an,U O lk.version,Ia lk.gone] 46)):=bN;clear dI bO HR bN;have xb:b<w.heap.size+1:=by omega
 go_loopw [9,10] (λi j w'=>∃k l:Nat,k<=l/\l<=n/\i=U O k/\j=U O l/\Below (w.heap.size+1) W0 w'/\Hid (∀j,j<k->ord (ms.getD j dm) lk<0)/\Hid (∀j,l<=j->j<n->0<=ord (ms.getD j dm) lk)) (λi j _=>(intOf j).toNat-(intOf i).toNat)
 case atStart=>exact⟨0,n,IP _,Ic _,rfl,rfl,by rw[tj.out];exact Ib _ _,λj h=>absurd h (Jv _),λj h1 h2=>by omega⟩
 case round=>
  obtain⟨k,l,iT,KV,rfl,rfl,aR,yO,yP⟩:=hrel;have cI:=aR.size;have eM:∀b o,b<w.heap.size+1->wr.cell? ⟨b,o,be⟩=W0.cell? ⟨b,o,be⟩:=λb o h=>aR.cell (p:=⟨b,o,be⟩) h;have G:=(HT.out.eq (λo=>eM w.heap.size o (by omega))).re;simp only[As,IC] at G;by_cases aX:k<l
  .obtain⟨h,hh,h1,h2⟩:∃h:Nat,((k:Int)+(l:Int))/2=(h:Int)/\k<=h/\h<l:=⟨(k+l)/2,by omega,by omega,by omega⟩
   have F:=((ET.out h (by rw[HN.out];omega)).eq (λo=>eM b o xb)).re;have oP:=HM.out;have HK:Hid (ord (ms.getD h dm) lk<0->∀j,j<h+1->ord (ms.getD j dm) lk<0):=λhx j hj=>oP j h (by omega) (by omega) hx;have HL:Hid (0<=ord (ms.getD h dm) lk->∀j,h<=j->j<n->0<=ord (ms.getD j dm) lk):=λhx j hj xe=>by
    apply Int.not_lt.1;intro hq;have:=oP h j hj xe hq;omega
   clear oP;have hhn:h<n:=by omega
   generalize ms.getD h dm=m at *;have hO:∀d os,Calls AS 157 #[Ij #[Y m.node,Y m.bP,Y m.name,Y m.tag,U O m.addr,U O m.port,Ia m.an,U O m.version,Ia m.gone],Ij #[Y lk.node,Y lk.bP,Y lk.name,Y lk.tag,U O lk.addr,U O lk.port,Ia lk.an,U O lk.version,Ia lk.gone]] (Im (Iz wr d) os) λe fT=>e=AT (U O (ord m lk))/\∃p:JT,fT=Im (Iz wr p.d) p.os:=λd os=>IZ (dt m lk _);simp only[As] at F;clear eM;generalize ord m lk=r at *;go_wp2_with fail;refine IG (by kernel_rfl) (by kernel_rfl) ?_;repeat(quiet_step (exact hO _ _))
   refine bM λdq jL ee=>?_;clear hO F G;by_cases vC:r<0
   .go_wp2_with fail
    exact⟨⟨h+1,l,by omega,by omega,by go_num,rfl,aR.trans (ee.out.mono (by omega)),HK.out vC,yP⟩,by simp[intOf];omega⟩
   .have zQ:0<=r:=by omega
    go_wp2_with fail;exact⟨⟨k,h,by omega,by omega,rfl,rfl,aR.trans (ee.out.mono (by omega)),yO,HL.out zQ⟩,by simp[intOf];omega⟩
  .have Co:l=k:=by omega
   subst Co;by_cases eV:l<n
   .have F:=((ET.out l (by rw[HN.out];omega)).eq (λo=>eM b o xb)).re
    generalize hm:ms.getD l dm=m at *;have Hm:Hid (ms.getD l dm=m):=hm;clear hm;have hO:∀d os,Calls AS 157 #[Ij #[Y m.node,Y m.bP,Y m.name,Y m.tag,U O m.addr,U O m.port,Ia m.an,U O m.version,Ia m.gone],Ij #[Y lk.node,Y lk.bP,Y lk.name,Y lk.tag,U O lk.addr,U O lk.port,Ia lk.an,U O lk.version,Ia lk.gone]] (Im (Iz wr d) os) λe fT=>e=AT (U O (ord m lk))/\∃p:JT,fT=Im (Iz wr p.d) p.os:=λd os=>IZ (dt m lk _);simp only[As] at F;clear eM;generalize Fq:ord m lk=r at *;have Hr:Hid (ord m lk=r):=Fq;clear Fq;go_wp2_with fail;refine IG (by kernel_rfl) (by kernel_rfl) ?_;repeat(quiet_step (exact hO _ _))
    refine bM λdq jL ee=>?_;clear hO F G;go_wp2_with fail;go_ret2;refine⟨l,_,rfl,db.out.trans ((aR.trans (ee.out.mono (by omega))).mono (by omega)),by omega,yO.out,yP.out,?_⟩;rw[Hm.out,Hr.out];simp[eV]
   .clear G
    have hkd:decide ((l:Int)<(n:Int))=false:=by simp;omega
    go_wp2_with fail;go_quiet (fail)
    go_wp2_with fail;go_ret2;refine⟨l,_,rfl,db.out.trans ((below_drewN aR _).mono (by omega)),by omega,yO.out,yP.out,?_⟩;simp[eV]
theorem fH(a:Option Addr)(cap:Nat)(lk:aY)(fv:Value)(w:World) :
 Calls AS 244 #[J a 0 cap,Ij #[Y lk.node,Y lk.bP,Y lk.name,Y lk.tag,U O lk.addr,U O lk.port,Ia lk.an,U O lk.version,Ia lk.gone],fv] w λe w'=>e=AT (Ik #[U O 0,Ia false])/\Below w.heap.size w w':=by
 go_enter Tryz.func244,Tryz.ntmps244;go_wp2_with fail;go_loop [9,10] (λi j=>i=U O 0/\j=U O 0) (λ_ _=>0)
 case atStart=>exact⟨rfl,rfl⟩
 case round=>
  obtain⟨rfl,rfl⟩:=hrel;go_wp2_with fail;go_quiet (fail)
  go_wp2_with fail;go_ret2;exact⟨rfl,below_drewN ((Ib _ _).alloc (Ic _) _) _⟩
theorem fI(ms:List aY)(v:Value)(lk:aY)(w:World)(h:Sl w v ms)(hn:ms.length<=80)(ij:∀i j,i<=j->j<ms.length->ord (ms.getD j dm) lk<0->ord (ms.getD i dm) lk<0) :
 Calls AS 244 #[v,Ij #[Y lk.node,Y lk.bP,Y lk.name,Y lk.tag,U O lk.addr,U O lk.port,Ia lk.an,U O lk.version,Ia lk.gone],IT (.func 157) #[] #[]] w λe w'=>∃(p:Nat) (f:Bool),e=AT (Ik #[U O p,Ia f])/\Below w.heap.size w w'/\At ms lk p f:=by
 obtain⟨a,cap,rfl,hs,h⟩:=h;rcases h with rfl|⟨b,off,rfl,hb,hr⟩
 .refine(fH a cap lk _ w).mono ?_
  rintro e w' ⟨rfl,hb⟩;exact⟨0,false,rfl,hb,⟨by simp,λj h=>by omega,λj h h2=>by simp at h2,by simp⟩⟩
 .refine(gA ms b off cap lk w hr hb hn ij).mono ?_
  rintro e w' ⟨p,f,rfl,aR,g1,g2,g3,g4⟩;exact⟨p,f,rfl,aR,⟨g1,g2,g3,g4⟩⟩
theorem fu(ms:List aY)(v:Value)(lk:aY)(w:World)(h:Sl w v ms)(hn:ms.length<=80)(hr:bp ms) :
 Calls AS 213 #[v,Ij #[Y lk.node,Y lk.bP,Y lk.name,Y lk.tag,U O lk.addr,U O lk.port,Ia lk.an,U O lk.version,Ia lk.gone],IT (.func 157) #[] #[]] w λe w'=>∃(p:Nat) (f:Bool),e=AT (Ik #[U O p,Ia f])/\Below w.heap.size w w'/\At ms lk p f:=by
 have HC:Hid (∀w',Below w.heap.size w w'->Calls AS 244 #[v,Ij #[Y lk.node,Y lk.bP,Y lk.name,Y lk.tag,U O lk.addr,U O lk.port,Ia lk.an,U O lk.version,Ia lk.gone],IT (.func 157) #[] #[]] w' λe fT=>∃(p:Nat) (f:Bool),e=AT (Ik #[U O p,Ia f])/\Below w'.heap.size w' fT/\At ms lk p f):=
  λw' hb=>fI ms v lk w' (h.below hb) hn (dU hr lk)
 clear h hn hr;go_enter Tryz.func213,Tryz.ntmps213;go_wp2_with (go_at_call 244;refine(HC.out _ ?hb).mono ?_)
 case hb=>exact(Ib _ _).alloc (Ic _) _
 rintro e w' ⟨p,f,rfl,aR,cH⟩;have gj:Hid (At ms lk p f):=cH;clear cH;go_wp2_with fail;go_ret2;exact⟨p,f,rfl,((Ib _ _).alloc (Ic _) _).trans (aR.mono (by simp)),gj.out⟩
end Sv
namespace Sv
open Go.RowKit
theorem mf{a b:List aY}(kC:a.length<=40)(kA:b.length<=40)(k:Nat):(dG a b k).length<=80:=by
 unfold dG;split
 .simp
 .split
  .omega
  .have:=dj b a;omega
structure BZ(w:World)(pb:Nat)(a b:List aY)(k:Nat)(l:List aY)(pk:Option Addr)(ck:Nat):Prop where
 cell:w.cell? ⟨pb,k,be⟩=AI (J pk l.length ck)
 row:l=[]\/∃b off,pk=AI ⟨b,off,be⟩/\b<w.heap.size/\Row w b off l
 Ku:∀m∈l,(m).ok
 len:l.length<=40
 B0:(dG a b k).length<=40
 tS:bp (dG a b k)
 B1:∀m∈dG a b k,(m).ok
 step:dG a b (k+1)=av (dG a b k) l
theorem oX{a b:List aY}{va vb:Value}{pb:Nat}{w:World}(ha:Sl w va a)(hb:Sl w vb b)(hc0:w.cell? ⟨pb,0,be⟩=AI va)(hc1:w.cell? ⟨pb,1,be⟩=AI vb)(kC:a.length<=40)(kA:b.length<=40)(ra:bp a)(k:Nat)(hk:k<2) :
 ∃l pk ck,BZ w pb a b k l pk ck:=by
 obtain⟨pa,ca,rfl,Kv,ha⟩:=ha;obtain⟨pv,cb,rfl,SA,hb⟩:=hb;have gr:k=0\/k=1:=by omega
 rcases gr with rfl|rfl
 .exact⟨a,pa,ca,hc0,ha,dy Kv,kC,by simp[dG],by simp[dG],by simp[dG],(iJ a ra).symm⟩
 .exact⟨b,pv,cb,hc1,hb,dy SA,kA,kC,ra,dy Kv,rfl⟩
theorem iL(a b:List aY)(va vb:Value)(pb cap:Nat)(w:World)(ha:Sl w va a)(hb:Sl w vb b)(hpb:pb<w.heap.size)(hc0:w.cell? ⟨pb,0,be⟩=AI va)(hc1:w.cell? ⟨pb,1,be⟩=AI vb)(kC:a.length<=40)(kA:b.length<=40)(ra:bp a) :
 Calls AS 171 #[IT (.func 157) #[] #[],IT (.func 172) #[] #[],J (AI ⟨pb,0,be⟩) 2 cap] w λe w'=>∃v',e=AT v'/\Own w.heap.size w' v' (av a b)/\Below w.heap.size w w':=by
 have HK:Hid (∀k,k<2->∃l pk ck,BZ w pb a b k l pk ck):=λk hk=>oX ha hb hc0 hc1 kC kA ra k hk;have vi:Hid (∀k,(dG a b k).length<=80):=mf kC kA;clear ha hb hc0 hc1 kC kA ra;go_enter Tryz.func171,Tryz.ntmps171;go_wp2_with fail;go_loopw [7,16] (λkn i w'=>∃k:Nat,k<=2/\i=U O k/\Below w.heap.size w w'/\Hid (Own w.heap.size w' kn (dG a b k))) (λ_ i _=>2-(intOf i).toNat)
 case atStart=>exact⟨0,by omega,rfl,Ib _ _,b9 _ _⟩
 case round=>
  obtain⟨k,hk,rfl,aR,HO⟩:=hrel;obtain⟨eM,nQ⟩:=cC aR;have cI:=aR.size;by_cases jJ:k<2
  .obtain⟨l,pk,ck,oY⟩:=HK.out k jJ
   have oZ:Hid (BZ w pb a b k l pk ck):=oY;have fW:=oY.cell;clear oY;generalize oD:l.length=nl at *;have iu:Hid (l.length=nl):=oD;clear oD;have Kw:nl<=40:=by have:=oZ.out.len;have:=iu.out;omega
   have SB:(k:Int)<2:=by omega
   go_wp2_with fail;go_loopw [7,22] (λkn j w'=>∃q:Nat,q<=nl/\j=U O q/\Below w.heap.size w w'/\Hid (Own w.heap.size w' kn (av (dG a b k) (l.take q)))) (λ_ j _=>nl-(intOf j).toNat)
   case atStart=>exact⟨0,IP _,rfl,aR,HO⟩
   case round=>
    clear eM nQ cI aR HO fW;obtain⟨q,hq,rfl,aR,HO⟩:=hrel;obtain⟨eM,nQ⟩:=cC aR;have cI:=aR.size;by_cases aX:q<nl
    .obtain⟨b2,off,B2,Mo,cR⟩:∃xR off,pk=AI ⟨xR,off,be⟩/\xR<w.heap.size/\Row w xR off l:=by
      rcases oZ.out.row with h|h
      .have:=iu.out;rw[h] at this;simp at this;omega
      .exact h
     subst B2;obtain⟨c0,c1,c2,c3,c4,c5,c6,c7,c8⟩:=cR q (by rw[iu.out];exact aX);clear cR;have HJ:Hid (av (dG a b k) (l.take (q+1))=aO (av (dG a b k) (l.take q)) (l.getD q dm)):=gl (dG a b k) l q (by rw[iu.out];exact aX);have HR:Hid (bp (av (dG a b k) (l.take q))):=dF _ _ oZ.out.tS;have MS:Hid (∀j,((av (dG a b k) (l.take q)).getD j dm).ok):=cy (iU _ _ oZ.out.B1 (λx hx=>oZ.out.Ku x (Jd hx)));have HL:Hid ((av (dG a b k) (l.take q)).length<=80):=by
      have h1:=dj (l.take q) (dG a b k);have h2:(l.take q).length<=q:=JL _ _;have h3:=oZ.out.B0;show(av (dG a b k) (l.take q)).length<=80;omega
     generalize l.getD q dm=m at *;generalize av (dG a b k) (l.take q)=known at *;have ED:known.length<=80:=HL.out;obtain⟨W1,cT,aB,ft,cO⟩:=bY wr #[Y m.node,Y m.bP,Y m.name,Y m.tag,U O m.addr,U O m.port,Ia m.an,U O m.version,Ia m.gone] 46;have lQ:Hid (Own w.heap.size W1 u7 known):=HO.out.below aB;have HF:Hid (Calls AS 213 #[u7,Ij #[Y m.node,Y m.bP,Y m.name,Y m.tag,U O m.addr,U O m.port,Ia m.an,U O m.version,Ia m.gone],IT (.func 157) #[] #[]] W1 λe w'=>∃(p:Nat) (f:Bool),e=AT (Ik #[U O p,Ia f])/\Below W1.heap.size W1 w'/\At known m p f):=
      fu known u7 m W1 (lQ.out.sl MS.out) HL.out HR.out
     have ba:Hid (Below w.heap.size w W1):=aR.trans (aB.mono cI);have HT:Hid (As W1 wr.heap.size 0 m):=⟨ae cO 0,ae cO 1,ae cO 2,ae cO 3,ae cO 4,ae cO 5,ae cO 6,ae cO 7,ae cO 8⟩;have oE:Hid _:=cT;have vt:w.heap.size<=W1.heap.size:=by omega
     clear cO aB HO HL HR cT;go_wp2_with fail;rw[<- oE.out];refine HF.out.mono ?_;rintro e w2 ⟨p,f,rfl,aK,cH⟩;have gj:Hid _:=cH;have SC:=cH.le;have SD:=aK.size;have iq:Hid (Own _ _ _ _):=lQ.out.below aK;have bu:Hid _:=ba.out.trans (aK.mono vt);have xl:Hid (As w2 wr.heap.size 0 m):=HT.out.eq (λo=>aK.cell (p:=⟨wr.heap.size,o,be⟩) (by show wr.heap.size<W1.heap.size;omega));obtain⟨t0,t1,t2,t3,t4,t5,t6,t7,t8⟩:w2.cell? ⟨wr.heap.size,0,be⟩=AI (Y m.node)/\w2.cell? ⟨wr.heap.size,1,be⟩=AI (Y m.bP)/\w2.cell? ⟨wr.heap.size,2,be⟩=AI (Y m.name)/\w2.cell? ⟨wr.heap.size,3,be⟩=AI (Y m.tag)/\w2.cell? ⟨wr.heap.size,4,be⟩=AI (U O m.addr)/\w2.cell? ⟨wr.heap.size,5,be⟩=AI (U O m.port)/\w2.cell? ⟨wr.heap.size,6,be⟩=AI (Ia m.an)/\w2.cell? ⟨wr.heap.size,7,be⟩=AI (U O m.version)/\w2.cell? ⟨wr.heap.size,8,be⟩=AI (Ia m.gone):=xl.out;have iv:w.heap.size<=w2.heap.size:=by omega
     have B3:wr.heap.size<w2.heap.size:=by omega
     clear cH HF eM nQ c0 c1 c2 c3 c4 c5 c6 c7 c8 aK lQ ba HT;cases f
     .have aQ:Hid (u7.ownBlock≠AI w2.heap.size):=λe=>by have:=iq.out.lt _ e;omega
      have ec:Hid (Own w.heap.size (w2.alloc (By #[Y m.node,Y m.bP,Y m.name,Y m.tag,U O m.addr,U O m.port,Ia m.an,U O m.version,Ia m.gone] 46)) u7 known):=iq.out.below ((Ib _ _).alloc (Ic _) _);have qf:Hid ((w2.alloc (By #[Y m.node,Y m.bP,Y m.name,Y m.tag,U O m.addr,U O m.port,Ia m.an,U O m.version,Ia m.gone] 46)).heap[w2.heap.size]?=AI (By m.cs.toArray 46 (0,0))):=Ih w2 _;go_wp2_with (go_at_call 214;refine(fC w.heap.size p w2.heap.size u7 known m _ ec.out gj.out.le (by omega) (by simp;omega) qf.out aQ.out).mono ?_;rintro e w4 ⟨v',rfl,g1,g2⟩);go_roundw
      case rel=>
       have jy:∃o5:Nat,o5<=nl/\U O ((q:Int)+1)=U O o5/\Below w.heap.size w w4/\Hid (Own w.heap.size w4 v' (av (dG a b k) (l.take o5))):=⟨q+1,by omega,by go_num,fq (bu.out.alloc iv _) ec.out g2 (by simp;omega),by rw[HJ.out,df known m p false gj.out];exact g1⟩;first|exact jy|((repeat apply Qk);exact⟨jy,rfl⟩)
      case measure=>simp[intOf];omega
     .have hp:p<known.length:=(gj.out.is.1 rfl).1
      obtain⟨g,c,hu⟩:=jT iq.out p hp;subst hu;have F:=(eE iq.out p hp).re;have du:=iq.out.lt g rfl;have Ng:g<w2.heap.size:=du.2;generalize hm:known.getD p dm=m2 at *;have Hm:Hid _:=hm;clear hm;have hN:∀d os,Calls AS 172 #[Ij #[Y m.node,Y m.bP,Y m.name,Y m.tag,U O m.addr,U O m.port,Ia m.an,U O m.version,Ia m.gone],Ij #[Y m2.node,Y m2.bP,Y m2.name,Y m2.tag,U O m2.addr,U O m2.port,Ia m2.an,U O m2.version,Ia m2.gone]] (Im (Iz w2 d) os) λe fT=>e=AT (Ia (bT m m2))/\∃p:JT,fT=Im (Iz w2 p.d) p.os:=λd os=>IZ (gu m m2 _);have G:=xl.out.re;simp only[As,IC] at F G;have rI:∀o,w2.frozen? ⟨g,o,be⟩=false:=λo=>I7 iq.out o;have Va:Hid _:=rI;clear rI t0 t1 t2 t3 t4 t5 t6 t7 t8;generalize EE:bT m m2=nw at *;have Kx:Hid _:=EE;clear EE;go_wp2_with fail;refine IG (by kernel_rfl) (by kernel_rfl) ?_;repeat(quiet_step (exact hN _ _))
      refine bM λdq jL ee=>?_;clear hN F G;cases nw
      .go_wp2_with fail
       go_roundw
       case rel=>
        have jy:∃o5:Nat,o5<=nl/\U O ((q:Int)+1)=U O o5/\Below w.heap.size w (Im (Iz w2 dq) jL)/\Hid (Own w.heap.size (Im (Iz w2 dq) jL) (J (AI ⟨g,0,be⟩) known.length c) (av (dG a b k) (l.take o5))):=⟨q+1,by omega,by go_num,bu.out.trans (ee.out.mono iv),by rw[HJ.out,df known m p true gj.out,if_pos rfl,Hm.out,if_neg (λh=>Bool.false_ne_true (Kx.out.symm.trans h))];exact iq.out.below ee.out⟩;first|exact jy|((repeat apply Qk);exact⟨jy,rfl⟩)
       case measure=>simp[intOf];omega
      .generalize Im (Iz w2 dq) jL=w3 at *
       have ec:Hid (Own _ _ _ _):=iq.out.below ee.out;obtain⟨c0,c1,c2,c3,c4,c5,c6,c7,c8⟩:=eE ec.out p hp;rw[Hm.out] at c0 c1 c2 c3 c4 c5 c6 c7 c8;have lF:=(ec.out.lt g rfl).2;have rI:∀o,w3.frozen? ⟨g,o,be⟩=false:=λo=>I7 ec.out o;obtain⟨s0,s1,s2,s3,s4,s5,s6,s7,s8⟩:w3.cell? ⟨wr.heap.size,0,be⟩=AI (Y m.node)/\w3.cell? ⟨wr.heap.size,1,be⟩=AI (Y m.bP)/\w3.cell? ⟨wr.heap.size,2,be⟩=AI (Y m.name)/\w3.cell? ⟨wr.heap.size,3,be⟩=AI (Y m.tag)/\w3.cell? ⟨wr.heap.size,4,be⟩=AI (U O m.addr)/\w3.cell? ⟨wr.heap.size,5,be⟩=AI (U O m.port)/\w3.cell? ⟨wr.heap.size,6,be⟩=AI (Ia m.an)/\w3.cell? ⟨wr.heap.size,7,be⟩=AI (U O m.version)/\w3.cell? ⟨wr.heap.size,8,be⟩=AI (Ia m.gone):=xl.out.eq (λo=>ee.out.cell (p:=⟨wr.heap.size,o,be⟩) B3);go_wp2_with fail;refine⟨⟨q+1,by omega,by go_num,?_,?_⟩,by simp[intOf];omega⟩
       .exact((((((((((bu.out.trans (ee.out.mono iv)).setCell (p:=⟨g,p*9,be⟩) du.1 (Y m.node)).setCell (p:=⟨g,p*9+1,be⟩) du.1 (Y m.bP)).setCell (p:=⟨g,p*9+2,be⟩) du.1 (Y m.name)).setCell (p:=⟨g,p*9+3,be⟩) du.1 (Y m.tag)).setCell (p:=⟨g,p*9+4,be⟩) du.1 (U O m.addr)).setCell (p:=⟨g,p*9+5,be⟩) du.1 (U O m.port)).setCell (p:=⟨g,p*9+6,be⟩) du.1 (Ia m.an)).setCell (p:=⟨g,p*9+7,be⟩) du.1 (U O m.version)).setCell (p:=⟨g,p*9+8,be⟩) du.1 (Ia m.gone))
       .rw[HJ.out,df known m p true gj.out,if_pos rfl,Hm.out,if_pos Kx.out]
        exact lK ec.out hp m
    .have EF:q=nl:=by omega
     subst EF;have ec:Hid (Own w.heap.size wr u7 (dG a b (k+1))):=by
      have h:=HO.out;rw[Jk (by rw[iu.out];exact Ic _)] at h;rw[oZ.out.step];exact h
     go_wp2_with fail;go_roundw
     case rel=>exact⟨k+1,by omega,by go_num,aR,ec⟩
     case measure=>simp[intOf];omega
  .have jY:k=2:=by omega
   subst jY;go_wp2_with fail;go_ret;exact⟨_,rfl,HO.out,aR⟩
end Sv
end Go.Proofs.YtfidhgjmifendaaGreatDoor
namespace Go.Proofs.YtfidhgjmifendaaGreatDoor
open Go.RowKit
theorem oO(ss:List ByteArray)(b cap:Nat)(w:World)(hb:∀j,j<ss.length->w.cell? ⟨b,j,be⟩=AI (Y (ss.getD j Iv)))(hs:∀j,(ss.getD j Iv).size<=Il)(hn:ss.length<=1000) :
 aI 34 #[J (AI ⟨b,0,be⟩) ss.length cap] w λe w'=>e=AT (Ia (ss.all bc))/\w'=w:=by
 have HB:Hid _:=hb;have HS:Hid _:=hs;have H0:Hid ((∀j,j<ss.length->bc (ss.getD j Iv)=true)->ss.all bc=true):=λh=>by
  rw[OJ];intro x hx;obtain⟨j,hj,rfl⟩:=IX hx;have:=h j hj;simpa[Ip,If hj] using this
 have H1:Hid (∀j,j<ss.length->bc (ss.getD j Iv)=false->ss.all bc=false):=λj hj h=>by
  rw[List.all_eq_false];refine⟨ss[j],IJ hj,?_⟩;rw[show ss.getD j Iv=ss[j] by simp[Ip,If hj]] at h;simp[h]
 clear hb hs;generalize ss.all bc=res at *;generalize hN:ss.length=n at *;clear hN;go_enter Tryz.func34,Tryz.ntmps34;go_wp2_with fail;go_loop [7] (λi=>∃k:Nat,k<=n/\i=U O k/\Hid (∀j,j<k->bc (ss.getD j Iv)=true)) (λi=>n-(intOf i).toNat)
 case atStart=>exact⟨0,IP _,rfl,λj h=>absurd h (Jv _)⟩
 case round=>
  obtain⟨k,hk,rfl,hz⟩:=hrel;by_cases aX:k<n
  .have hc:=HB.out k aX
   have PC:=HS.out k;have HZ:Hid (bc (ss.getD k Iv)=true->∀j,j<k+1->bc (ss.getD j Iv)=true):=λh j hj=>by
    rcases Jh.1 hj with h2|rfl
    .exact hz.out j h2
    .exact h
   have HF:Hid (bc (ss.getD k Iv)=false->res=false):=λh=>H1.out k aX h;generalize ss.getD k Iv=s at *;rcases hl:bc s with _|_
   .have HR:Hid _:=HF.out hl
    go_wp2_with (go_at_call 53;refine(bV _ _ PC).mono ?_;rintro e w' ⟨rfl,rfl⟩;rw[hl]);go_ret;exact⟨aW HR.out.symm,rfl⟩
   .go_wp2_with (go_at_call 53;refine(bV _ _ PC).mono ?_;rintro e w' ⟨rfl,rfl⟩;rw[hl])
    go_round
    case rel=>exact⟨k+1,by omega,by go_num,HZ.out hl⟩
    case measure=>simp[intOf];omega
  .have HR:Hid _:=H0.out λj hj=>hz.out j (by omega)
   go_wp2_with fail;go_ret;exact⟨aW HR.out.symm,rfl⟩
def pB(t:ByteArray):Bool:=decide (t=Iv)||bc t
theorem AP(ss:List ByteArray)(b cap:Nat)(w:World)(hb:∀j,j<ss.length->w.cell? ⟨b,j,be⟩=AI (Y (ss.getD j Iv)))(hs:∀j,(ss.getD j Iv).size<=Il)(hn:ss.length<=1000) :
 aI 205 #[J (AI ⟨b,0,be⟩) ss.length cap] w λe w'=>e=AT (Ia (ss.all pB))/\w'=w:=by
 have HB:Hid _:=hb;have HS:Hid _:=hs;have H0:Hid ((∀j,j<ss.length->pB (ss.getD j Iv)=true)->ss.all pB=true):=λh=>by
  rw[OJ];intro x hx;obtain⟨j,hj,rfl⟩:=IX hx;have:=h j hj;simpa[Ip,If hj] using this
 have H1:Hid (∀j,j<ss.length->pB (ss.getD j Iv)=false->ss.all pB=false):=λj hj h=>by
  rw[List.all_eq_false];refine⟨ss[j],IJ hj,?_⟩;rw[show ss.getD j Iv=ss[j] by simp[Ip,If hj]] at h;simp[h]
 clear hb hs;generalize ss.all pB=res at *;generalize hN:ss.length=n at *;clear hN;go_enter Tryz.func205,Tryz.ntmps205;go_wp2_with fail;go_loop [7] (λi=>∃k:Nat,k<=n/\i=U O k/\Hid (∀j,j<k->pB (ss.getD j Iv)=true)) (λi=>n-(intOf i).toNat)
 case atStart=>exact⟨0,IP _,rfl,λj h=>absurd h (Jv _)⟩
 case round=>
  obtain⟨k,hk,rfl,hz⟩:=hrel;by_cases aX:k<n
  .have hc:=HB.out k aX
   have PC:=HS.out k;have HZ:Hid (pB (ss.getD k Iv)=true->∀j,j<k+1->pB (ss.getD j Iv)=true):=λh j hj=>by
    rcases Jh.1 hj with h2|rfl
    .exact hz.out j h2
    .exact h
   have HF:Hid (pB (ss.getD k Iv)=false->res=false):=λh=>H1.out k aX h;generalize ss.getD k Iv=s at *;by_cases hse:s=Iv
   .subst hse
    have lP:Hid _:=HZ.out (by simp[pB]);clear HZ HF;go_wp2_with fail;go_round
    case rel=>exact⟨k+1,by omega,by go_num,lP.out⟩
    case measure=>simp[intOf];omega
   .have HE:Hid (pB s=bc s):=(show pB s=bc s by simp[pB,hse])
    obtain⟨h1,h2⟩:=mK hse;have h3:¬ s.toList=[]:=λe=>h2 (by rw[e,Lib.toList_data];rfl);have h4:(s.toList==[])=false:=by simpa using h3
    clear hse;rcases hl:bc s with _|_
    .have HR:Hid _:=HF.out (by rw[HE.out,hl])
     go_wp2_with (go_at_call 53;refine(bV _ _ PC).mono ?_;rintro e w' ⟨rfl,rfl⟩;rw[hl]);go_ret;exact⟨aW HR.out.symm,rfl⟩
    .have lP:Hid _:=HZ.out (by rw[HE.out,hl])
     clear HZ HF;go_wp2_with (go_at_call 53;refine(bV _ _ PC).mono ?_;rintro e w' ⟨rfl,rfl⟩;rw[hl]);go_round
     case rel=>exact⟨k+1,by omega,by go_num,lP.out⟩
     case measure=>simp[intOf];omega
  .have HR:Hid _:=H0.out λj hj=>hz.out j (by omega)
   go_wp2_with fail;go_ret;exact⟨aW HR.out.symm,rfl⟩
theorem Ma(t:ByteArray)(W:World)(g:Nat)(hs:t.size<=Il)(hg:W.heap[g]?=AI (By #[Y t] 9 (0,0))) :
 aI 205 #[J (AI ⟨g,0,be⟩) 1 1] W λe w'=>e=AT (Ia (pB t))/\w'=W:=by
 have h:=AP [t] g 1 W (λj hj=>by
  rw[ae hg]
  have:j=0:=by simp at hj;omega
  subst this;rfl) (λj=>by
  match j with
  |0=>exact hs
  |_+1=>simp[Ip]) (by simp)
 simpa using h
end Go.Proofs.YtfidhgjmifendaaGreatDoor
namespace Go.Proofs.YtfidhgjmifendaaGreatDoor
namespace Sv
open Go.RowKit
theorem PD(t:ByteArray)(W:World)(g:Nat)(hs:t.size<=Il)(hg:W.heap[g]?=AI (By #[Y t] 9 (0,0))) :
 Calls AS 205 #[J (AI ⟨g,0,be⟩) 1 1] W λe w'=>e=AT (Ia (lU t))/\w'=W:=Ma t W g hs hg
def Gx(m:aY):Bool:=[m.node,m.bP,m.name].all bc
theorem aY.abc(m:aY):m.e=if Gx m=true then(if lU m.tag=true then(if within m.addr 0 4294967295=true then(if within m.port 0 65535=true then(if within m.version 1 1000000=true then 0 else 3) else 3) else 3) else 1) else 1:=by
 unfold aY.e Gx;simp only[List.all_cons,List.all_nil,Bool.and_true];cases bc m.node<;>cases bc m.bP<;>cases bc m.name<;>cases lU m.tag<;>cases within m.addr 0 4294967295<;>cases within m.port 0 65535<;>cases within m.version 1 1000000<;>rfl
theorem AQ(m:aY)(hm:m.ok)(W:World)(g:Nat)(hg:W.heap[g]?=AI (By #[Y m.node,Y m.bP,Y m.name] 9 (0,0))) :
 Calls AS 34 #[J (AI ⟨g,0,be⟩) 3 3] W λe w'=>e=AT (Ia (Gx m))/\w'=W:=by
 refine oO [m.node,m.bP,m.name] g 3 W (λj hj=>?_) (λj=>?_) (by simp)
 .rw[ae hg]
  have:j=0\/j=1\/j=2:=by simp at hj;omega
  rcases this with rfl|rfl|rfl<;>rfl
 .obtain⟨h1,h2,h3,h4⟩:=hm
  match j with
  |0=>exact h1
  |1=>exact h2
  |2=>exact h3
  |_+3=>simp[Ip]
theorem fX(m:aY)(w:World)(hm:m.ok) :
 Calls AS 155 #[Ij #[Y m.node,Y m.bP,Y m.name,Y m.tag,U O m.addr,U O m.port,Ia m.an,U O m.version,Ia m.gone]] w λe w'=>e=AT (U O m.e)/\Below w.heap.size w w':=by
 have hs:m.tag.size<=Il:=hm.2.2.2;have hB:Hid (Below w.heap.size w ((w.alloc (By #[Y m.node,Y m.bP,Y m.name,Y m.tag,U O m.addr,U O m.port,Ia m.an,U O m.version,Ia m.gone] 46)).alloc (By #[Y m.node,Y m.bP,Y m.name] 9))):=((Ib _ _).alloc (Ic _) _).alloc (by simp) _;have hg:((w.alloc (By #[Y m.node,Y m.bP,Y m.name,Y m.tag,U O m.addr,U O m.port,Ia m.an,U O m.version,Ia m.gone] 46)).alloc (By #[Y m.node,Y m.bP,Y m.name] 9)).heap[w.heap.size+1]?=AI (By #[Y m.node,Y m.bP,Y m.name] 9 (0,0)):=by
  have h:=Ih (w.alloc (By #[Y m.node,Y m.bP,Y m.name,Y m.tag,U O m.addr,U O m.port,Ia m.an,U O m.version,Ia m.gone] 46)) (By #[Y m.node,Y m.bP,Y m.name] 9);simpa using h
 have HL:Hid (Calls AS 34 #[J (AI ⟨w.heap.size+1,0,be⟩) 3 3] ((w.alloc (By #[Y m.node,Y m.bP,Y m.name,Y m.tag,U O m.addr,U O m.port,Ia m.an,U O m.version,Ia m.gone] 46)).alloc (By #[Y m.node,Y m.bP,Y m.name] 9)) λe w'=>e=AT (Ia (Gx m))/\w'=(w.alloc (By #[Y m.node,Y m.bP,Y m.name,Y m.tag,U O m.addr,U O m.port,Ia m.an,U O m.version,Ia m.gone] 46)).alloc (By #[Y m.node,Y m.bP,Y m.name] 9)):=AQ m hm _ _ hg;clear hg;have hB3:Hid (Below w.heap.size w (((w.alloc (By #[Y m.node,Y m.bP,Y m.name,Y m.tag,U O m.addr,U O m.port,Ia m.an,U O m.version,Ia m.gone] 46)).alloc (By #[Y m.node,Y m.bP,Y m.name] 9)).alloc (By #[Y m.tag] 9))):=hB.out.alloc (by simp;omega) _;have lF:(((w.alloc (By #[Y m.node,Y m.bP,Y m.name,Y m.tag,U O m.addr,U O m.port,Ia m.an,U O m.version,Ia m.gone] 46)).alloc (By #[Y m.node,Y m.bP,Y m.name] 9)).alloc (By #[Y m.tag] 9)).heap[w.heap.size+2]?=AI (By #[Y m.tag] 9 (0,0)):=by
  have h:=Ih ((w.alloc (By #[Y m.node,Y m.bP,Y m.name,Y m.tag,U O m.addr,U O m.port,Ia m.an,U O m.version,Ia m.gone] 46)).alloc (By #[Y m.node,Y m.bP,Y m.name] 9)) (By #[Y m.tag] 9);simpa using h
 have HT:Hid (Calls AS 205 #[J (AI ⟨w.heap.size+2,0,be⟩) 1 1] (((w.alloc (By #[Y m.node,Y m.bP,Y m.name,Y m.tag,U O m.addr,U O m.port,Ia m.an,U O m.version,Ia m.gone] 46)).alloc (By #[Y m.node,Y m.bP,Y m.name] 9)).alloc (By #[Y m.tag] 9)) λe w'=>e=AT (Ia (lU m.tag))/\w'=(((w.alloc (By #[Y m.node,Y m.bP,Y m.name,Y m.tag,U O m.addr,U O m.port,Ia m.an,U O m.version,Ia m.gone] 46)).alloc (By #[Y m.node,Y m.bP,Y m.name] 9)).alloc (By #[Y m.tag] 9))):=PD m.tag _ _ hs lF;clear lF;have HD:Hid (m.e=if Gx m=true then(if lU m.tag=true then(if within m.addr 0 4294967295=true then(if within m.port 0 65535=true then(if within m.version 1 1000000=true then 0 else 3) else 3) else 3) else 1) else 1):=m.abc;clear hm;rcases h1:Gx m with _|_
 .go_enter Tryz.func155,Tryz.ntmps155
  go_wp2_with (go_at_call 34;refine HL.out.mono ?_;rintro e w' ⟨rfl,rfl⟩;rw[h1]);go_ret;exact⟨ai (by rw[HD.out];simp[h1]),hB.out⟩
 .rcases h2:lU m.tag with _|_
  .go_enter Tryz.func155,Tryz.ntmps155
   go_wp2_with (first|(go_at_call 34;refine HL.out.mono ?_;rintro e w' ⟨rfl,rfl⟩;rw[h1])|(go_at_call 205;refine HT.out.mono ?_;rintro e w' ⟨rfl,rfl⟩;rw[h2]));go_ret;exact⟨ai (by rw[HD.out];simp[h1,h2]),hB3.out⟩
  .rcases h3:within m.addr 0 4294967295 with _|_
   .go_enter Tryz.func155,Tryz.ntmps155
    go_wp2_with (first|(go_at_call 34;refine HL.out.mono ?_;rintro e w' ⟨rfl,rfl⟩;rw[h1])|(go_at_call 205;refine HT.out.mono ?_;rintro e w' ⟨rfl,rfl⟩;rw[h2])|(go_at_call 35;refine(eL _ _).mono ?_;rintro e w' ⟨rfl,rfl⟩;rw[h3]));go_ret;exact⟨ai (by rw[HD.out];simp[h1,h2,h3]),hB3.out⟩
   .rcases h4:within m.port 0 65535 with _|_
    .go_enter Tryz.func155,Tryz.ntmps155
     go_wp2_with (first|(go_at_call 34;refine HL.out.mono ?_;rintro e w' ⟨rfl,rfl⟩;rw[h1])|(go_at_call 205;refine HT.out.mono ?_;rintro e w' ⟨rfl,rfl⟩;rw[h2])|(go_at_call 35;refine(eL _ _).mono ?_;rintro e w' ⟨rfl,rfl⟩;rw[h3])|(go_at_call 54;refine(cB _ _ _ _).mono ?_;rintro e w' ⟨rfl,rfl⟩;rw[h4]));go_ret;exact⟨ai (by rw[HD.out];simp[h1,h2,h3,h4]),hB3.out⟩
    .rcases h5:within m.version 1 1000000 with _|_
     all_goals
      go_enter Tryz.func155,Tryz.ntmps155;go_wp2_with (first|(go_at_call 34;refine HL.out.mono ?_;rintro e w' ⟨rfl,rfl⟩;rw[h1])|(go_at_call 205;refine HT.out.mono ?_;rintro e w' ⟨rfl,rfl⟩;rw[h2])|(go_at_call 35;refine(eL _ _).mono ?_;rintro e w' ⟨rfl,rfl⟩;rw[h3])|(go_at_call 54;refine(cB _ _ _ _).mono ?_;rintro e w' ⟨rfl,rfl⟩;first|rw[h4]|rw[h5]));go_ret;exact⟨ai (by rw[HD.out];simp[h1,h2,h3,h4,h5]),hB3.out⟩
theorem iP(ms:List aY)(b off cap:Nat)(w:World)(hr:Row w b off ms)(hb:b<w.heap.size)(hn:ms.length<=40)(hs:∀j,(ms.getD j dm).ok) :
 Calls AS 99 #[J (AI ⟨b,off,be⟩) ms.length cap] w λe w'=>e=AT (U O (bl ms))/\Below w.heap.size w w':=by
 have HR:Hid (Row w b off ms):=hr;have HE:Hid (∀k,k<ms.length->(∀j,j<k->(ms.getD j dm).e=0)->(ms.getD k dm).e≠0->bl ms=(ms.getD k dm).e):=λk h1 h2 h3=>tI ms k hn h1 h2 h3;have H4:Hid ((∀j,j<ms.length->(ms.getD j dm).e=0)->bl ms=if aM ms=true then 0 else 4):=λh1=>rM ms hn h1;have K3:Hid (∀w',Below w.heap.size w w'->Calls _ _ _ _ _):=λw' A5=>jQ ms b off cap w' (hr.later A5 hb) (IL hb A5.size) hn;clear hr;generalize hN:ms.length=n at *;have HN:Hid _:=hN;clear hN;have HS:Hid _:=hs;clear hs;generalize hC:bl ms=res at *;have HC:Hid _:=hC;clear hC;generalize K5:aM ms=rb at *;have GS:Hid _:=K5;clear K5;go_enter Tryz.func99,Tryz.ntmps99;go_wp2_with fail;go_loopw [11] (λi w'=>∃k:Nat,k<=n/\i=U O k/\Below w.heap.size w w'/\Hid (∀j,j<k->(ms.getD j dm).e=0)) (λi _=>n-(intOf i).toNat)
 case atStart=>exact⟨0,IP _,rfl,Ib _ _,λj h=>absurd h (Jv _)⟩
 case round=>
  obtain⟨k,hk,rfl,aR,hz⟩:=hrel;obtain⟨eM,nQ⟩:=cC aR;have cI:=aR.size;by_cases aX:k<n
  .obtain⟨c0,c1,c2,c3,c4,c5,c6,c7,c8⟩:=HR.out k (by rw[HN.out];exact aX)
   have DK:Hid _:=HS.out k;have HK:Hid ((ms.getD k dm).e≠0->res=(ms.getD k dm).e):=λh=>HE.out k aX hz.out h;have HZ:Hid ((ms.getD k dm).e=0->∀j,j<k+1->(ms.getD j dm).e=0):=λh j hj=>by
    rcases Jh.1 hj with h2|rfl
    .exact hz.out j h2
    .exact h
   generalize ms.getD k dm=m at *;have HO:Hid (∀w,Calls _ _ _ _ _):=λw=>fX m w DK.out;generalize m.e=me at *;rcases he:decide (me=0) with _|_
   .have kW:(me !=0)=true:=by simpa using he
    clear he;go_wp2_with (go_at_call 155;refine(HO.out _).mono ?_;rintro e w' ⟨rfl,aK⟩);go_ret;have aQ:me≠0:=by simpa using kW
    have tn:=HK.out aQ;exact⟨ai tn.symm,(aR.alloc cI _).trans (aK.mono (by simp;omega))⟩
   .have kW:(me !=0)=false:=by simpa using he
    clear he;go_wp2_with (go_at_call 155;refine(HO.out _).mono ?_;rintro e w' ⟨rfl,aK⟩);go_roundw
    case rel=>
     have Rg:me=0:=by simpa using kW
     exact⟨k+1,by omega,by go_num,(aR.alloc cI _).trans (aK.mono (by simp;omega)),HZ.out Rg⟩
    case measure=>simp[intOf];omega
  .have kK:Hid (∀j,j<n->(ms.getD j dm).e=0):=λj hj=>hz.out j (by omega)
   have pj:Hid _:=H4.out kK.out;clear hz kK H4 HE HC GS;cases rb
   .go_wp2_with (go_at_call 156;refine(K3.out _ aR).mono ?_;rintro e w' ⟨rfl,aK⟩)
    go_ret;exact⟨ai (by rw[pj.out];rfl),aR.trans (aK.mono cI)⟩
   .go_wp2_with (go_at_call 156;refine(K3.out _ aR).mono ?_;rintro e w' ⟨rfl,aK⟩)
    go_ret;exact⟨ai (by rw[pj.out];rfl),aR.trans (aK.mono cI)⟩
theorem gB(a:Option Addr)(n cap:Nat)(w:World)(hn:40<n) :
 Calls AS 99 #[J a n cap] w λe w'=>e=AT (U O 2)/\w'=w:=by
 go_enter Tryz.func99,Tryz.ntmps99;go_wp2_with fail;go_ret;exact⟨rfl,rfl⟩
theorem gC(a:Option Addr)(cap:Nat)(w:World) :
 Calls AS 99 #[J a 0 cap] w λe w'=>e=AT (U O 0)/\w'=w:=by
 go_enter Tryz.func99,Tryz.ntmps99;go_wp2_with fail;go_loop [11] (λi=>i=U O 0) (λ_=>0)
 case atStart=>rfl
 case round=>
  subst hrel;go_wp2_with (go_at_call 156;refine(gz _ _ _ _).mono ?_;rintro e w' ⟨rfl,rfl⟩);go_ret;exact⟨rfl,rfl⟩
theorem bq(ms:List aY)(v:Value)(w:World)(h:Sl w v ms) :
 Calls AS 99 #[v] w λe w'=>e=AT (U O (bl ms))/\Below w.heap.size w w':=by
 obtain⟨a,cap,rfl,hs,h⟩:=h;by_cases hn:40<ms.length
 .refine(gB a ms.length cap w hn).mono ?_
  rintro e w' ⟨rfl,rfl⟩;exact⟨ai (by rw[bl,if_pos hn]),Ib _ _⟩
 .rcases h with rfl|⟨b,off,rfl,hb,hr⟩
  .refine(gC a cap w).mono ?_
   rintro e w' ⟨rfl,rfl⟩;exact⟨rfl,Ib _ _⟩
  .exact iP ms b off cap w hr hb (by omega) hs
theorem dO(a b:List aY)(va vb:Value)(pb cap:Nat)(w:World)(ha:Sl w va a)(hb:Sl w vb b)(hpb:pb<w.heap.size)(hc0:w.cell? ⟨pb,0,be⟩=AI va)(hc1:w.cell? ⟨pb,1,be⟩=AI vb) :
 Calls AS 170 #[J (AI ⟨pb,0,be⟩) 2 cap] w λe w'=>e=AT (U O (aP a b))/\Below w.heap.size w w':=by
 have HA:Hid (Sl w va a):=ha;have HB:Hid (Sl w vb b):=hb;clear ha hb;go_enter Tryz.func170,Tryz.ntmps170;go_wp2_with fail;go_loopw [8] (λi w'=>∃k:Nat,k<=2/\i=U O k/\Below w.heap.size w w'/\Hid (0<k->bl a=0)/\Hid (1<k->bl b=0)) (λi _=>2-(intOf i).toNat)
 case atStart=>exact⟨0,by omega,rfl,Ib _ _,λh=>by omega,λh=>by omega⟩
 case round=>
  obtain⟨k,hk,rfl,aR,di,da⟩:=hrel;obtain⟨eM,nQ⟩:=cC aR;have cI:=aR.size;have GG:Hid (Sl wr va a):=HA.out.below aR;have GH:Hid (Sl wr vb b):=HB.out.below aR;have gr:k=0\/k=1\/k=2:=by omega
  rcases gr with rfl|rfl|rfl
  .rcases he:decide (bl a=0) with _|_
   .have kW:(bl a !=0)=true:=by simpa using he
    clear he;go_wp2_with (go_at_call 99;refine(bq a _ _ GG.out).mono ?_;rintro e w' ⟨rfl,aK⟩);go_ret;exact⟨ai (by have h0:bl a≠0:=(by simpa using kW);rw[aP,if_neg h0]),aR.trans (aK.mono cI)⟩
   .have kW:(bl a !=0)=false:=by simpa using he
    clear he;go_wp2_with (go_at_call 99;refine(bq a _ _ GG.out).mono ?_;rintro e w' ⟨rfl,aK⟩);go_roundw
    case rel=>exact⟨1,by omega,by go_num,aR.trans (aK.mono cI),λ_=>(by simpa using kW),λh=>by omega⟩
    case measure=>simp[intOf]
  .have h0:Hid _:=di.out (by omega)
   rcases he:decide (bl b=0) with _|_
   .have kW:(bl b !=0)=true:=by simpa using he
    clear he;go_wp2_with (go_at_call 99;refine(bq b _ _ GH.out).mono ?_;rintro e w' ⟨rfl,aK⟩);go_ret;exact⟨ai (by rw[aP,if_pos h0.out]),aR.trans (aK.mono cI)⟩
   .have kW:(bl b !=0)=false:=by simpa using he
    clear he;go_wp2_with (go_at_call 99;refine(bq b _ _ GH.out).mono ?_;rintro e w' ⟨rfl,aK⟩);go_roundw
    case rel=>exact⟨2,by omega,by go_num,aR.trans (aK.mono cI),λ_=>h0.out,λ_=>(by simpa using kW)⟩
    case measure=>simp[intOf]
  .go_wp2_with fail
   go_ret;exact⟨ai (by rw[aP,if_pos (di.out (by omega)),da.out (by omega)]),aR⟩
theorem mT(a b:List aY)(va vb:Value)(pb cap:Nat)(w:World)(ha:Sl w va a)(hb:Sl w vb b)(hpb:pb<w.heap.size)(hc0:w.cell? ⟨pb,0,be⟩=AI va)(hc1:w.cell? ⟨pb,1,be⟩=AI vb)(aQ:aP a b≠0) :
 Calls AS 109 #[J (AI ⟨pb,0,be⟩) 2 cap] w λe w'=>e=AT (Ik #[J be 0 0,U O (aE a b)])/\Below w.heap.size w w':=by
 have he:(aP a b !=0)=true:=by simpa using aQ
 have HE:Hid (aE a b=aP a b):=if_neg aQ;have qp:=dO a b va vb pb cap w ha hb hpb hc0 hc1;have HC:Hid (Calls _ _ _ _ _):=qp;clear qp ha hb aQ;go_enter Tryz.func109,Tryz.ntmps109;go_wp2_with (go_at_call 170;refine HC.out.mono ?_;rintro e w' ⟨rfl,aK⟩);go_ret2;exact⟨by rw[HE.out];rfl,aK⟩
theorem lj(a b:List aY)(va vb:Value)(pb cap:Nat)(w:World)(ha:Sl w va a)(hb:Sl w vb b)(hpb:pb<w.heap.size)(hc0:w.cell? ⟨pb,0,be⟩=AI va)(hc1:w.cell? ⟨pb,1,be⟩=AI vb)(h0:aP a b=0) :
 Calls AS 109 #[J (AI ⟨pb,0,be⟩) 2 cap] w λe w'=>∃v',e=AT (Ik #[v',U O (aE a b)])/\Below w.heap.size w w' /\
  (40<(av a b).length->v'=J be 0 0)/\((av a b).length<=40->Own w.heap.size w' v' (av a b)):=by
 have he:(aP a b !=0)=false:=by simpa using h0
 have DL:bl a=0:=by unfold aP at h0;split at h0<;>assumption
 have Rh:bl b=0:=by unfold aP at h0;rw[if_pos DL] at h0;exact h0
 have za:=af DL;have zb:=af Rh;have HE:Hid (aE a b=if 40<(av a b).length then 2 else 0):=if_pos h0;have HC:Hid (Calls _ _ _ _ _):=dO a b va vb pb cap w ha hb hpb hc0 hc1;have HJ:Hid (∀w1,Below w.heap.size w w1->Calls AS 171 #[IT (.func 157) #[] #[],IT (.func 172) #[] #[],J (AI ⟨pb,0,be⟩) 2 cap] w1 λe w'=>∃v',e=AT v'/\Own w1.heap.size w' v' (av a b)/\Below w1.heap.size w1 w'):=λw1 aB=>
  iL a b va vb pb cap w1 (ha.below aB) (hb.below aB) (IL hpb aB.size) ((cC aB).1 pb 0 hpb |>.trans hc0) ((cC aB).1 pb 1 hpb |>.trans hc1) za.1 zb.1 za.2.1
 have ED:(av a b).length<=80:=by have h1:=dj b a;have h2:=za.1;have h3:=zb.1;omega
 clear h0 DL Rh za zb ha hb hc0 hc1;generalize av a b=jl at *;generalize Hp:jl.length=n at *;have WW:Hid _:=Hp;clear Hp;go_enter Tryz.func109,Tryz.ntmps109;go_wp2_with (go_at_call 170;refine HC.out.mono ?_;rintro e w1 ⟨rfl,aB⟩);refine(HJ.out w1 aB).mono ?_;rintro e w2 ⟨v',rfl,ho,aK⟩;have Aa:∃p c,v'=J p n c:=by
  have hn:=WW.out;rcases ho.2 with⟨h,h0⟩|⟨g,c,cur,h,_⟩
  .exact⟨be,0,by rw[h];congr 1;omega⟩
  .exact⟨_,c,by rw[h,hn]⟩
 obtain⟨p,c,rfl⟩:=Aa;have Ri:Hid _:=aB.trans (aK.mono aB.size);have ec:Hid (Own _ _ _ _):=ho.mono aB.size;clear ho aB aK HC HJ;by_cases aX:40<n
 .go_wp2_with fail
  go_ret2;refine⟨_,by rw[HE.out,if_pos aX];rfl,Ri.out,λ_=>rfl,λh=>by omega⟩
 .go_wp2_with fail
  go_ret2;refine⟨J p n c,by rw[HE.out,if_neg aX];rfl,Ri.out,λh=>by omega,λ_=>ec.out⟩
end Sv
namespace Gw
open Go.RowKit
theorem dt(a b:bL)(w:World) :
 aI 160 #[Ij #[Y a.aD,U O a.addr,U O a.version],Ij #[Y b.aD,U O b.addr,U O b.version]] w λe w'=>e=AT (U O (ord a b))/\Below w.heap.size w w':=by
 go_enter Tryz.func160,Tryz.ntmps160;go_wp2_with (go_at_call 49;refine(gE _ _ _).mono ?_;rintro e w' ⟨rfl,rfl⟩);go_ret;exact⟨rfl,((Ib _ _).alloc (Ic _) _).alloc (by simp) _⟩
theorem gu(a b:bL)(w:World) :
 aI 175 #[Ij #[Y a.aD,U O a.addr,U O a.version],Ij #[Y b.aD,U O b.addr,U O b.version]] w λe w'=>e=AT (Ia (bT a b))/\Below w.heap.size w w':=by
 have hd:∀a b:bL,bT a b=if a.version=b.version then decide (b.addr<a.addr) else decide (b.version<a.version):=λa b=>by
  simp only[bT,xH,RL.lex];by_cases h:a.version=b.version
  .rw[if_pos (by omega),if_pos h];congr 1;apply propext;omega
  .rw[if_neg (by omega),if_neg h];congr 1;apply propext;omega
 have HD:Hid (bT a b=if a.version=b.version then decide (b.addr<a.addr) else decide (b.version<a.version)):=hd a b;clear hd;obtain⟨ca,aa,va⟩:=a;obtain⟨cb,ab,vb⟩:=b;by_cases h1:va=vb
 .subst h1
  go_enter Tryz.func175,Tryz.ntmps175;go_wp2;go_ret;exact⟨aW (by rw[HD.out];simp),((Ib _ _).alloc (Ic _) _).alloc (by simp) _⟩
 .have Np:(va !=vb)=true:=by simpa using h1
  go_enter Tryz.func175,Tryz.ntmps175;go_wp2;go_ret;exact⟨aW (by rw[HD.out];simp[h1]),((Ib _ _).alloc (Ic _) _).alloc (by simp) _⟩
end Gw
namespace Gw
open Go.RowKit
theorem jQ(ms:List bL)(b off cap:Nat)(w:World)(hr:Row w b off ms)(hb:b<w.heap.size)(hn:ms.length<=6) :
 Calls AS 159 #[J (AI ⟨b,off,be⟩) ms.length cap,IT (.func 160) #[] #[]] w λe w'=>e=AT (Ia (aM ms))/\Below w.heap.size w w':=by
 have HR:Hid (Row w b off ms):=hr;clear hr;have H4:Hid (∀k,k+1<ms.length->0<=ord (ms.getD k dm) (ms.getD (k+1) dm)->aM ms=false):=λk hk hl=>by
  rcases h:aM ms with _|_
  .rfl
  .have:=fE ms h k hk;omega
 have H0:Hid ((∀j,j+1<ms.length->ord (ms.getD j dm) (ms.getD (j+1) dm)<0)->aM ms=true):=fD ms;generalize hN:ms.length=n at *;have HN:Hid (ms.length=n):=hN;clear hN;generalize hC:aM ms=res at *;have HC:Hid (aM ms=res):=hC;clear hC;go_enter Tryz.func159,Tryz.ntmps159;go_wp2_with fail;go_loopw [5] (λi w'=>∃k:Nat,(k+1<=n\/k=0)/\i=U O (k+1)/\Below w.heap.size w w'/\Hid (∀j,j<k->ord (ms.getD j dm) (ms.getD (j+1) dm)<0)) (λi _=>n-(intOf i).toNat)
 case atStart=>exact⟨0,.inr rfl,rfl,Ib _ _,λj h=>absurd h (Jv _)⟩
 case round=>
  obtain⟨q,hq,rfl,aR,hz⟩:=hrel;obtain⟨eM,nQ⟩:=cC aR;have cI:=aR.size;by_cases aX:q+1<n
  .have F:=((HR.out q (by rw[HN.out];omega)).eq (λo=>eM b o hb)).re
   have G:=((HR.out (q+1) (by rw[HN.out];exact aX)).eq (λo=>eM b o hb)).re;have HK:Hid (0<=ord (ms.getD q dm) (ms.getD (q+1) dm)->res=false):=λh=>H4.out q aX h;have HZ:Hid (ord (ms.getD q dm) (ms.getD (q+1) dm)<0->∀j,j<q+1->ord (ms.getD j dm) (ms.getD (j+1) dm)<0):=λh j hj=>by
    rcases Jh.1 hj with h2|rfl
    .exact hz.out j h2
    .exact h
   generalize ms.getD q dm=m1 at *;generalize ms.getD (q+1) dm=m2 at *;have hN:∀d os,Calls AS 160 #[Ij #[Y m1.aD,U O m1.addr,U O m1.version],Ij #[Y m2.aD,U O m2.addr,U O m2.version]] (Im (Iz wr d) os) λe fT=>e=AT (U O (ord m1 m2))/\∃p:JT,fT=Im (Iz wr p.d) p.os:=λd os=>IZ (dt m1 m2 _);simp only[As] at F G;clear eM nQ;generalize ord m1 m2=r at *;have GQ:IntKind.i64.wrap (q:Int)=(q:Int):=by rw[IW];omega
   have EF:q<n:=by omega
   have hq1:(q:Int)+1<(n:Int):=by omega
   have hq0:(0:Int)<=(q:Int)+1:=by omega
   have Et:((q:Int)+1).toNat=q+1:=by omega
   go_wp2_with fail;refine IG (by kernel_rfl) (by kernel_rfl) ?_;repeat(quiet_step (exact hN _ _))
   refine bM λdq jL ee=>?_;clear hN F G;by_cases hl:r<0
   .have mJ:¬ (0<=r):=by omega
    go_wp2_with fail;go_roundw
    case rel=>exact⟨q+1,.inl (by omega),by go_num,aR.trans (ee.out.mono cI),HZ.out hl⟩
    case measure=>simp[intOf];omega
   .have mJ:0<=r:=by omega
    have h4:Hid (res=false):=HK.out mJ;go_wp2_with fail;go_ret;exact⟨aW h4.out.symm,aR.trans (ee.out.mono cI)⟩
  .have h0:Hid (res=true):=H0.out λj hj=>hz.out j (by omega)
   go_wp2_with fail;go_ret;exact⟨aW h0.out.symm,aR⟩
theorem gz(a:Option Addr)(cap:Nat)(fv:Value)(w:World) :
 Calls AS 159 #[J a 0 cap,fv] w λe w'=>e=AT (Ia true)/\w'=w:=by
 go_enter Tryz.func159,Tryz.ntmps159;go_wp2_with fail;go_loop [5] (λi=>i=U O 1) (λ_=>0)
 case atStart=>rfl
 case round=>
  subst hrel;go_wp2_with fail;go_ret;exact⟨rfl,rfl⟩
theorem gA(ms:List bL)(b off cap:Nat)(lk:bL)(w:World)(hr:Row w b off ms)(hb:b<w.heap.size)(hn:ms.length<=12)(ij:∀i j,i<=j->j<ms.length->ord (ms.getD j dm) lk<0->ord (ms.getD i dm) lk<0) :
 Calls AS 247 #[J (AI ⟨b,off,be⟩) ms.length cap,Ij #[Y lk.aD,U O lk.addr,U O lk.version],IT (.func 160) #[] #[]] w λe w'=>∃(p:Nat) (f:Bool),e=AT (Ik #[U O p,Ia f])/\Below w.heap.size w w' /\
  p<=ms.length/\(∀j,j<p->ord (ms.getD j dm) lk<0)/\(∀j,p<=j->j<ms.length->0<=ord (ms.getD j dm) lk)/\(f=true↔p<ms.length/\ord (ms.getD p dm) lk=0):=by
 have HR:Hid (Row w b off ms):=hr;clear hr;have HM:Hid _:=ij;clear ij;generalize hN:ms.length=n at *;have HN:Hid (ms.length=n):=hN;clear hN;go_enter Tryz.func247,Tryz.ntmps247;go_wp2_with fail;obtain⟨W0,bN,bO,eK,dI⟩:=bY w #[Y lk.aD,U O lk.addr,U O lk.version] 77;have ET:Hid (Row W0 b off ms):=HR.out.later bO hb;have HT:Hid (As W0 w.heap.size 0 lk):=⟨ae dI 0,ae dI 1,ae dI 2⟩;have db:Hid (Below w.heap.size w W0):=bO;have tj:Hid (W0=w.alloc (By #[Y lk.aD,U O lk.addr,U O lk.version] 77)):=bN;clear dI bO HR bN;have xb:b<w.heap.size+1:=by omega
 go_loopw [9,10] (λi j w'=>∃k l:Nat,k<=l/\l<=n/\i=U O k/\j=U O l/\Below (w.heap.size+1) W0 w'/\Hid (∀j,j<k->ord (ms.getD j dm) lk<0)/\Hid (∀j,l<=j->j<n->0<=ord (ms.getD j dm) lk)) (λi j _=>(intOf j).toNat-(intOf i).toNat)
 case atStart=>exact⟨0,n,IP _,Ic _,rfl,rfl,by rw[tj.out];exact Ib _ _,λj h=>absurd h (Jv _),λj h1 h2=>by omega⟩
 case round=>
  obtain⟨k,l,iT,KV,rfl,rfl,aR,yO,yP⟩:=hrel;have cI:=aR.size;have eM:∀b o,b<w.heap.size+1->wr.cell? ⟨b,o,be⟩=W0.cell? ⟨b,o,be⟩:=λb o h=>aR.cell (p:=⟨b,o,be⟩) h;have G:=(HT.out.eq (λo=>eM w.heap.size o (by omega))).re;simp only[As,IC] at G;by_cases aX:k<l
  .obtain⟨h,hh,h1,h2⟩:∃h:Nat,((k:Int)+(l:Int))/2=(h:Int)/\k<=h/\h<l:=⟨(k+l)/2,by omega,by omega,by omega⟩
   have F:=((ET.out h (by rw[HN.out];omega)).eq (λo=>eM b o xb)).re;have oP:=HM.out;have HK:Hid (ord (ms.getD h dm) lk<0->∀j,j<h+1->ord (ms.getD j dm) lk<0):=λhx j hj=>oP j h (by omega) (by omega) hx;have HL:Hid (0<=ord (ms.getD h dm) lk->∀j,h<=j->j<n->0<=ord (ms.getD j dm) lk):=λhx j hj xe=>by
    apply Int.not_lt.1;intro hq;have:=oP h j hj xe hq;omega
   clear oP;have hhn:h<n:=by omega
   generalize ms.getD h dm=m at *;have hO:∀d os,Calls AS 160 #[Ij #[Y m.aD,U O m.addr,U O m.version],Ij #[Y lk.aD,U O lk.addr,U O lk.version]] (Im (Iz wr d) os) λe fT=>e=AT (U O (ord m lk))/\∃p:JT,fT=Im (Iz wr p.d) p.os:=λd os=>IZ (dt m lk _);simp only[As] at F;clear eM;generalize ord m lk=r at *;go_wp2_with fail;refine IG (by kernel_rfl) (by kernel_rfl) ?_;repeat(quiet_step (exact hO _ _))
   refine bM λdq jL ee=>?_;clear hO F G;by_cases vC:r<0
   .go_wp2_with fail
    exact⟨⟨h+1,l,by omega,by omega,by go_num,rfl,aR.trans (ee.out.mono (by omega)),HK.out vC,yP⟩,by simp[intOf];omega⟩
   .have zQ:0<=r:=by omega
    go_wp2_with fail;exact⟨⟨k,h,by omega,by omega,rfl,rfl,aR.trans (ee.out.mono (by omega)),yO,HL.out zQ⟩,by simp[intOf];omega⟩
  .have Co:l=k:=by omega
   subst Co;by_cases eV:l<n
   .have F:=((ET.out l (by rw[HN.out];omega)).eq (λo=>eM b o xb)).re
    generalize hm:ms.getD l dm=m at *;have Hm:Hid (ms.getD l dm=m):=hm;clear hm;have hO:∀d os,Calls AS 160 #[Ij #[Y m.aD,U O m.addr,U O m.version],Ij #[Y lk.aD,U O lk.addr,U O lk.version]] (Im (Iz wr d) os) λe fT=>e=AT (U O (ord m lk))/\∃p:JT,fT=Im (Iz wr p.d) p.os:=λd os=>IZ (dt m lk _);simp only[As] at F;clear eM;generalize Fq:ord m lk=r at *;have Hr:Hid (ord m lk=r):=Fq;clear Fq;go_wp2_with fail;refine IG (by kernel_rfl) (by kernel_rfl) ?_;repeat(quiet_step (exact hO _ _))
    refine bM λdq jL ee=>?_;clear hO F G;go_wp2_with fail;go_ret2;refine⟨l,_,rfl,db.out.trans ((aR.trans (ee.out.mono (by omega))).mono (by omega)),by omega,yO.out,yP.out,?_⟩;rw[Hm.out,Hr.out];simp[eV]
   .clear G
    have hkd:decide ((l:Int)<(n:Int))=false:=by simp;omega
    go_wp2_with fail;go_quiet (fail)
    go_wp2_with fail;go_ret2;refine⟨l,_,rfl,db.out.trans ((below_drewN aR _).mono (by omega)),by omega,yO.out,yP.out,?_⟩;simp[eV]
theorem fH(a:Option Addr)(cap:Nat)(lk:bL)(fv:Value)(w:World) :
 Calls AS 247 #[J a 0 cap,Ij #[Y lk.aD,U O lk.addr,U O lk.version],fv] w λe w'=>e=AT (Ik #[U O 0,Ia false])/\Below w.heap.size w w':=by
 go_enter Tryz.func247,Tryz.ntmps247;go_wp2_with fail;go_loop [9,10] (λi j=>i=U O 0/\j=U O 0) (λ_ _=>0)
 case atStart=>exact⟨rfl,rfl⟩
 case round=>
  obtain⟨rfl,rfl⟩:=hrel;go_wp2_with fail;go_quiet (fail)
  go_wp2_with fail;go_ret2;exact⟨rfl,below_drewN ((Ib _ _).alloc (Ic _) _) _⟩
theorem fI(ms:List bL)(v:Value)(lk:bL)(w:World)(h:Sl w v ms)(hn:ms.length<=12)(ij:∀i j,i<=j->j<ms.length->ord (ms.getD j dm) lk<0->ord (ms.getD i dm) lk<0) :
 Calls AS 247 #[v,Ij #[Y lk.aD,U O lk.addr,U O lk.version],IT (.func 160) #[] #[]] w λe w'=>∃(p:Nat) (f:Bool),e=AT (Ik #[U O p,Ia f])/\Below w.heap.size w w'/\At ms lk p f:=by
 obtain⟨a,cap,rfl,hs,h⟩:=h;rcases h with rfl|⟨b,off,rfl,hb,hr⟩
 .refine(fH a cap lk _ w).mono ?_
  rintro e w' ⟨rfl,hb⟩;exact⟨0,false,rfl,hb,⟨by simp,λj h=>by omega,λj h h2=>by simp at h2,by simp⟩⟩
 .refine(gA ms b off cap lk w hr hb hn ij).mono ?_
  rintro e w' ⟨p,f,rfl,aR,g1,g2,g3,g4⟩;exact⟨p,f,rfl,aR,⟨g1,g2,g3,g4⟩⟩
theorem fu(ms:List bL)(v:Value)(lk:bL)(w:World)(h:Sl w v ms)(hn:ms.length<=12)(hr:bp ms) :
 Calls AS 215 #[v,Ij #[Y lk.aD,U O lk.addr,U O lk.version],IT (.func 160) #[] #[]] w λe w'=>∃(p:Nat) (f:Bool),e=AT (Ik #[U O p,Ia f])/\Below w.heap.size w w'/\At ms lk p f:=by
 have HC:Hid (∀w',Below w.heap.size w w'->Calls AS 247 #[v,Ij #[Y lk.aD,U O lk.addr,U O lk.version],IT (.func 160) #[] #[]] w' λe fT=>∃(p:Nat) (f:Bool),e=AT (Ik #[U O p,Ia f])/\Below w'.heap.size w' fT/\At ms lk p f):=
  λw' hb=>fI ms v lk w' (h.below hb) hn (dU hr lk)
 clear h hn hr;go_enter Tryz.func215,Tryz.ntmps215;go_wp2_with (go_at_call 247;refine(HC.out _ ?hb).mono ?_)
 case hb=>exact(Ib _ _).alloc (Ic _) _
 rintro e w' ⟨p,f,rfl,aR,cH⟩;have gj:Hid (At ms lk p f):=cH;clear cH;go_wp2_with fail;go_ret2;exact⟨p,f,rfl,((Ib _ _).alloc (Ic _) _).trans (aR.mono (by simp)),gj.out⟩
end Gw
namespace Gw
open Go.RowKit
theorem mf{a b:List bL}(kC:a.length<=6)(kA:b.length<=6)(k:Nat):(dG a b k).length<=12:=by
 unfold dG;split
 .simp
 .split
  .omega
  .have:=dj b a;omega
structure BZ(w:World)(pb:Nat)(a b:List bL)(k:Nat)(l:List bL)(pk:Option Addr)(ck:Nat):Prop where
 cell:w.cell? ⟨pb,k,be⟩=AI (J pk l.length ck)
 row:l=[]\/∃b off,pk=AI ⟨b,off,be⟩/\b<w.heap.size/\Row w b off l
 Ku:∀m∈l,(m).ok
 len:l.length<=6
 B0:(dG a b k).length<=6
 tS:bp (dG a b k)
 B1:∀m∈dG a b k,(m).ok
 step:dG a b (k+1)=av (dG a b k) l
theorem oX{a b:List bL}{va vb:Value}{pb:Nat}{w:World}(ha:Sl w va a)(hb:Sl w vb b)(hc0:w.cell? ⟨pb,0,be⟩=AI va)(hc1:w.cell? ⟨pb,1,be⟩=AI vb)(kC:a.length<=6)(kA:b.length<=6)(ra:bp a)(k:Nat)(hk:k<2) :
 ∃l pk ck,BZ w pb a b k l pk ck:=by
 obtain⟨pa,ca,rfl,Kv,ha⟩:=ha;obtain⟨pv,cb,rfl,SA,hb⟩:=hb;have gr:k=0\/k=1:=by omega
 rcases gr with rfl|rfl
 .exact⟨a,pa,ca,hc0,ha,dy Kv,kC,by simp[dG],by simp[dG],by simp[dG],(iJ a ra).symm⟩
 .exact⟨b,pv,cb,hc1,hb,dy SA,kA,kC,ra,dy Kv,rfl⟩
theorem iL(a b:List bL)(va vb:Value)(pb cap:Nat)(w:World)(ha:Sl w va a)(hb:Sl w vb b)(hpb:pb<w.heap.size)(hc0:w.cell? ⟨pb,0,be⟩=AI va)(hc1:w.cell? ⟨pb,1,be⟩=AI vb)(kC:a.length<=6)(kA:b.length<=6)(ra:bp a) :
 Calls AS 174 #[IT (.func 160) #[] #[],IT (.func 175) #[] #[],J (AI ⟨pb,0,be⟩) 2 cap] w λe w'=>∃v',e=AT v'/\Own w.heap.size w' v' (av a b)/\Below w.heap.size w w':=by
 have HK:Hid (∀k,k<2->∃l pk ck,BZ w pb a b k l pk ck):=λk hk=>oX ha hb hc0 hc1 kC kA ra k hk;have vi:Hid (∀k,(dG a b k).length<=12):=mf kC kA;clear ha hb hc0 hc1 kC kA ra;go_enter Tryz.func174,Tryz.ntmps174;go_wp2_with fail;go_loopw [7,16] (λkn i w'=>∃k:Nat,k<=2/\i=U O k/\Below w.heap.size w w'/\Hid (Own w.heap.size w' kn (dG a b k))) (λ_ i _=>2-(intOf i).toNat)
 case atStart=>exact⟨0,by omega,rfl,Ib _ _,b9 _ _⟩
 case round=>
  obtain⟨k,hk,rfl,aR,HO⟩:=hrel;obtain⟨eM,nQ⟩:=cC aR;have cI:=aR.size;by_cases jJ:k<2
  .obtain⟨l,pk,ck,oY⟩:=HK.out k jJ
   have oZ:Hid (BZ w pb a b k l pk ck):=oY;have fW:=oY.cell;clear oY;generalize oD:l.length=nl at *;have iu:Hid (l.length=nl):=oD;clear oD;have Kw:nl<=6:=by have:=oZ.out.len;have:=iu.out;omega
   have SB:(k:Int)<2:=by omega
   go_wp2_with fail;go_loopw [7,22] (λkn j w'=>∃q:Nat,q<=nl/\j=U O q/\Below w.heap.size w w'/\Hid (Own w.heap.size w' kn (av (dG a b k) (l.take q)))) (λ_ j _=>nl-(intOf j).toNat)
   case atStart=>exact⟨0,IP _,rfl,aR,HO⟩
   case round=>
    clear eM nQ cI aR HO fW;obtain⟨q,hq,rfl,aR,HO⟩:=hrel;obtain⟨eM,nQ⟩:=cC aR;have cI:=aR.size;by_cases aX:q<nl
    .obtain⟨b2,off,B2,Mo,cR⟩:∃xR off,pk=AI ⟨xR,off,be⟩/\xR<w.heap.size/\Row w xR off l:=by
      rcases oZ.out.row with h|h
      .have:=iu.out;rw[h] at this;simp at this;omega
      .exact h
     subst B2;obtain⟨c0,c1,c2⟩:=cR q (by rw[iu.out];exact aX);clear cR;have HJ:Hid (av (dG a b k) (l.take (q+1))=aO (av (dG a b k) (l.take q)) (l.getD q dm)):=gl (dG a b k) l q (by rw[iu.out];exact aX);have HR:Hid (bp (av (dG a b k) (l.take q))):=dF _ _ oZ.out.tS;have MS:Hid (∀j,((av (dG a b k) (l.take q)).getD j dm).ok):=cy (iU _ _ oZ.out.B1 (λx hx=>oZ.out.Ku x (Jd hx)));have HL:Hid ((av (dG a b k) (l.take q)).length<=12):=by
      have h1:=dj (l.take q) (dG a b k);have h2:(l.take q).length<=q:=JL _ _;have h3:=oZ.out.B0;show(av (dG a b k) (l.take q)).length<=12;omega
     generalize l.getD q dm=m at *;generalize av (dG a b k) (l.take q)=known at *;have ED:known.length<=12:=HL.out;obtain⟨W1,cT,aB,ft,cO⟩:=bY wr #[Y m.aD,U O m.addr,U O m.version] 77;have lQ:Hid (Own w.heap.size W1 u7 known):=HO.out.below aB;have HF:Hid (Calls AS 215 #[u7,Ij #[Y m.aD,U O m.addr,U O m.version],IT (.func 160) #[] #[]] W1 λe w'=>∃(p:Nat) (f:Bool),e=AT (Ik #[U O p,Ia f])/\Below W1.heap.size W1 w'/\At known m p f):=
      fu known u7 m W1 (lQ.out.sl MS.out) HL.out HR.out
     have ba:Hid (Below w.heap.size w W1):=aR.trans (aB.mono cI);have HT:Hid (As W1 wr.heap.size 0 m):=⟨ae cO 0,ae cO 1,ae cO 2⟩;have oE:Hid _:=cT;have vt:w.heap.size<=W1.heap.size:=by omega
     clear cO aB HO HL HR cT;go_wp2_with fail;rw[<- oE.out];refine HF.out.mono ?_;rintro e w2 ⟨p,f,rfl,aK,cH⟩;have gj:Hid _:=cH;have SC:=cH.le;have SD:=aK.size;have iq:Hid (Own _ _ _ _):=lQ.out.below aK;have bu:Hid _:=ba.out.trans (aK.mono vt);have xl:Hid (As w2 wr.heap.size 0 m):=HT.out.eq (λo=>aK.cell (p:=⟨wr.heap.size,o,be⟩) (by show wr.heap.size<W1.heap.size;omega));obtain⟨t0,t1,t2⟩:w2.cell? ⟨wr.heap.size,0,be⟩=AI (Y m.aD)/\w2.cell? ⟨wr.heap.size,1,be⟩=AI (U O m.addr)/\w2.cell? ⟨wr.heap.size,2,be⟩=AI (U O m.version):=xl.out;have iv:w.heap.size<=w2.heap.size:=by omega
     have B3:wr.heap.size<w2.heap.size:=by omega
     clear cH HF eM nQ c0 c1 c2 aK lQ ba HT;cases f
     .have aQ:Hid (u7.ownBlock≠AI w2.heap.size):=λe=>by have:=iq.out.lt _ e;omega
      have ec:Hid (Own w.heap.size (w2.alloc (By #[Y m.aD,U O m.addr,U O m.version] 77)) u7 known):=iq.out.below ((Ib _ _).alloc (Ic _) _);have qf:Hid ((w2.alloc (By #[Y m.aD,U O m.addr,U O m.version] 77)).heap[w2.heap.size]?=AI (By m.cs.toArray 77 (0,0))):=Ih w2 _;go_wp2_with (go_at_call 216;refine(fC w.heap.size p w2.heap.size u7 known m _ ec.out gj.out.le (by omega) (by simp;omega) qf.out aQ.out).mono ?_;rintro e w4 ⟨v',rfl,g1,g2⟩);go_roundw
      case rel=>
       have jy:∃o5:Nat,o5<=nl/\U O ((q:Int)+1)=U O o5/\Below w.heap.size w w4/\Hid (Own w.heap.size w4 v' (av (dG a b k) (l.take o5))):=⟨q+1,by omega,by go_num,fq (bu.out.alloc iv _) ec.out g2 (by simp;omega),by rw[HJ.out,df known m p false gj.out];exact g1⟩;first|exact jy|((repeat apply Qk);exact⟨jy,rfl⟩)
      case measure=>simp[intOf];omega
     .have hp:p<known.length:=(gj.out.is.1 rfl).1
      obtain⟨g,c,hu⟩:=jT iq.out p hp;subst hu;have F:=(eE iq.out p hp).re;have du:=iq.out.lt g rfl;have Ng:g<w2.heap.size:=du.2;generalize hm:known.getD p dm=m2 at *;have Hm:Hid _:=hm;clear hm;have hN:∀d os,Calls AS 175 #[Ij #[Y m.aD,U O m.addr,U O m.version],Ij #[Y m2.aD,U O m2.addr,U O m2.version]] (Im (Iz w2 d) os) λe fT=>e=AT (Ia (bT m m2))/\∃p:JT,fT=Im (Iz w2 p.d) p.os:=λd os=>IZ (gu m m2 _);have G:=xl.out.re;simp only[As,IC] at F G;have rI:∀o,w2.frozen? ⟨g,o,be⟩=false:=λo=>I7 iq.out o;have Va:Hid _:=rI;clear rI t0 t1 t2;generalize EE:bT m m2=nw at *;have Kx:Hid _:=EE;clear EE;go_wp2_with fail;refine IG (by kernel_rfl) (by kernel_rfl) ?_;repeat(quiet_step (exact hN _ _))
      refine bM λdq jL ee=>?_;clear hN F G;cases nw
      .go_wp2_with fail
       go_roundw
       case rel=>
        have jy:∃o5:Nat,o5<=nl/\U O ((q:Int)+1)=U O o5/\Below w.heap.size w (Im (Iz w2 dq) jL)/\Hid (Own w.heap.size (Im (Iz w2 dq) jL) (J (AI ⟨g,0,be⟩) known.length c) (av (dG a b k) (l.take o5))):=⟨q+1,by omega,by go_num,bu.out.trans (ee.out.mono iv),by rw[HJ.out,df known m p true gj.out,if_pos rfl,Hm.out,if_neg (λh=>Bool.false_ne_true (Kx.out.symm.trans h))];exact iq.out.below ee.out⟩;first|exact jy|((repeat apply Qk);exact⟨jy,rfl⟩)
       case measure=>simp[intOf];omega
      .generalize Im (Iz w2 dq) jL=w3 at *
       have ec:Hid (Own _ _ _ _):=iq.out.below ee.out;obtain⟨c0,c1,c2⟩:=eE ec.out p hp;rw[Hm.out] at c0 c1 c2;have lF:=(ec.out.lt g rfl).2;have rI:∀o,w3.frozen? ⟨g,o,be⟩=false:=λo=>I7 ec.out o;obtain⟨s0,s1,s2⟩:w3.cell? ⟨wr.heap.size,0,be⟩=AI (Y m.aD)/\w3.cell? ⟨wr.heap.size,1,be⟩=AI (U O m.addr)/\w3.cell? ⟨wr.heap.size,2,be⟩=AI (U O m.version):=xl.out.eq (λo=>ee.out.cell (p:=⟨wr.heap.size,o,be⟩) B3);go_wp2_with fail;refine⟨⟨q+1,by omega,by go_num,?_,?_⟩,by simp[intOf];omega⟩
       .exact((((bu.out.trans (ee.out.mono iv)).setCell (p:=⟨g,p*3,be⟩) du.1 (Y m.aD)).setCell (p:=⟨g,p*3+1,be⟩) du.1 (U O m.addr)).setCell (p:=⟨g,p*3+2,be⟩) du.1 (U O m.version))
       .rw[HJ.out,df known m p true gj.out,if_pos rfl,Hm.out,if_pos Kx.out]
        exact lK ec.out hp m
    .have EF:q=nl:=by omega
     subst EF;have ec:Hid (Own w.heap.size wr u7 (dG a b (k+1))):=by
      have h:=HO.out;rw[Jk (by rw[iu.out];exact Ic _)] at h;rw[oZ.out.step];exact h
     go_wp2_with fail;go_roundw
     case rel=>exact⟨k+1,by omega,by go_num,aR,ec⟩
     case measure=>simp[intOf];omega
  .have jY:k=2:=by omega
   subst jY;go_wp2_with fail;go_ret;exact⟨_,rfl,HO.out,aR⟩
end Gw
namespace Gw
open Go.RowKit
theorem fX(m:bL)(w:World)(hm:m.ok) :
 Calls AS 158 #[Ij #[Y m.aD,U O m.addr,U O m.version]] w λe w'=>e=AT (U O m.e)/\Below w.heap.size w w':=by
 have hs:m.aD.size<=Il:=hm;have hB:Hid (Below w.heap.size w (w.alloc (By #[Y m.aD,U O m.addr,U O m.version] 77))):=(Ib _ _).alloc (Ic _) _;clear hm;rcases h1:bc m.aD with _|_
 .go_enter Tryz.func158,Tryz.ntmps158
  go_wp2_with (go_at_call 53;refine(bV _ _ hs).mono ?_;rintro e w' ⟨rfl,rfl⟩;rw[h1]);go_ret;exact⟨ai (by simp[bL.e,h1]),hB.out⟩
 .rcases h2:within m.addr 0 4294967295 with _|_
  .go_enter Tryz.func158,Tryz.ntmps158
   go_wp2_with (first|(go_at_call 53;refine(bV _ _ hs).mono ?_;rintro e w' ⟨rfl,rfl⟩;rw[h1])|(go_at_call 35;refine(eL _ _).mono ?_;rintro e w' ⟨rfl,rfl⟩;rw[h2]));go_ret;exact⟨ai (by simp[bL.e,h1,h2]),hB.out⟩
  .rcases h3:within m.version 1 1000000 with _|_
   all_goals
    go_enter Tryz.func158,Tryz.ntmps158;go_wp2_with (first|(go_at_call 53;refine(bV _ _ hs).mono ?_;rintro e w' ⟨rfl,rfl⟩;rw[h1])|(go_at_call 35;refine(eL _ _).mono ?_;rintro e w' ⟨rfl,rfl⟩;rw[h2])|(go_at_call 54;refine(cB _ _ _ _).mono ?_;rintro e w' ⟨rfl,rfl⟩;rw[h3]));go_ret;exact⟨ai (by simp[bL.e,h1,h2,h3]),hB.out⟩
theorem iP(ms:List bL)(b off cap:Nat)(w:World)(hr:Row w b off ms)(hb:b<w.heap.size)(hn:ms.length<=6)(hs:∀j,(ms.getD j dm).ok) :
 Calls AS 100 #[J (AI ⟨b,off,be⟩) ms.length cap] w λe w'=>e=AT (U O (bl ms))/\Below w.heap.size w w':=by
 have HR:Hid (Row w b off ms):=hr;have HE:Hid (∀k,k<ms.length->(∀j,j<k->(ms.getD j dm).e=0)->(ms.getD k dm).e≠0->bl ms=(ms.getD k dm).e):=λk h1 h2 h3=>tI ms k hn h1 h2 h3;have H4:Hid ((∀j,j<ms.length->(ms.getD j dm).e=0)->bl ms=if aM ms=true then 0 else 4):=λh1=>rM ms hn h1;have K3:Hid (∀w',Below w.heap.size w w'->Calls _ _ _ _ _):=λw' A5=>jQ ms b off cap w' (hr.later A5 hb) (IL hb A5.size) hn;clear hr;generalize hN:ms.length=n at *;have HN:Hid _:=hN;clear hN;have HS:Hid _:=hs;clear hs;generalize hC:bl ms=res at *;have HC:Hid _:=hC;clear hC;generalize K5:aM ms=rb at *;have GS:Hid _:=K5;clear K5;go_enter Tryz.func100,Tryz.ntmps100;go_wp2_with fail;go_loopw [11] (λi w'=>∃k:Nat,k<=n/\i=U O k/\Below w.heap.size w w'/\Hid (∀j,j<k->(ms.getD j dm).e=0)) (λi _=>n-(intOf i).toNat)
 case atStart=>exact⟨0,IP _,rfl,Ib _ _,λj h=>absurd h (Jv _)⟩
 case round=>
  obtain⟨k,hk,rfl,aR,hz⟩:=hrel;obtain⟨eM,nQ⟩:=cC aR;have cI:=aR.size;by_cases aX:k<n
  .obtain⟨c0,c1,c2⟩:=HR.out k (by rw[HN.out];exact aX)
   have DK:Hid _:=HS.out k;have HK:Hid ((ms.getD k dm).e≠0->res=(ms.getD k dm).e):=λh=>HE.out k aX hz.out h;have HZ:Hid ((ms.getD k dm).e=0->∀j,j<k+1->(ms.getD j dm).e=0):=λh j hj=>by
    rcases Jh.1 hj with h2|rfl
    .exact hz.out j h2
    .exact h
   generalize ms.getD k dm=m at *;have HO:Hid (∀w,Calls _ _ _ _ _):=λw=>fX m w DK.out;generalize m.e=me at *;rcases he:decide (me=0) with _|_
   .have kW:(me !=0)=true:=by simpa using he
    clear he;go_wp2_with (go_at_call 158;refine(HO.out _).mono ?_;rintro e w' ⟨rfl,aK⟩);go_ret;have aQ:me≠0:=by simpa using kW
    have tn:=HK.out aQ;exact⟨ai tn.symm,(aR.alloc cI _).trans (aK.mono (by simp;omega))⟩
   .have kW:(me !=0)=false:=by simpa using he
    clear he;go_wp2_with (go_at_call 158;refine(HO.out _).mono ?_;rintro e w' ⟨rfl,aK⟩);go_roundw
    case rel=>
     have Rg:me=0:=by simpa using kW
     exact⟨k+1,by omega,by go_num,(aR.alloc cI _).trans (aK.mono (by simp;omega)),HZ.out Rg⟩
    case measure=>simp[intOf];omega
  .have kK:Hid (∀j,j<n->(ms.getD j dm).e=0):=λj hj=>hz.out j (by omega)
   have pj:Hid _:=H4.out kK.out;clear hz kK H4 HE HC GS;cases rb
   .go_wp2_with (go_at_call 159;refine(K3.out _ aR).mono ?_;rintro e w' ⟨rfl,aK⟩)
    go_ret;exact⟨ai (by rw[pj.out];rfl),aR.trans (aK.mono cI)⟩
   .go_wp2_with (go_at_call 159;refine(K3.out _ aR).mono ?_;rintro e w' ⟨rfl,aK⟩)
    go_ret;exact⟨ai (by rw[pj.out];rfl),aR.trans (aK.mono cI)⟩
theorem gB(a:Option Addr)(n cap:Nat)(w:World)(hn:6<n) :
 Calls AS 100 #[J a n cap] w λe w'=>e=AT (U O 2)/\w'=w:=by
 go_enter Tryz.func100,Tryz.ntmps100;go_wp2_with fail;go_ret;exact⟨rfl,rfl⟩
theorem gC(a:Option Addr)(cap:Nat)(w:World) :
 Calls AS 100 #[J a 0 cap] w λe w'=>e=AT (U O 0)/\w'=w:=by
 go_enter Tryz.func100,Tryz.ntmps100;go_wp2_with fail;go_loop [11] (λi=>i=U O 0) (λ_=>0)
 case atStart=>rfl
 case round=>
  subst hrel;go_wp2_with (go_at_call 159;refine(gz _ _ _ _).mono ?_;rintro e w' ⟨rfl,rfl⟩);go_ret;exact⟨rfl,rfl⟩
theorem bq(ms:List bL)(v:Value)(w:World)(h:Sl w v ms) :
 Calls AS 100 #[v] w λe w'=>e=AT (U O (bl ms))/\Below w.heap.size w w':=by
 obtain⟨a,cap,rfl,hs,h⟩:=h;by_cases hn:6<ms.length
 .refine(gB a ms.length cap w hn).mono ?_
  rintro e w' ⟨rfl,rfl⟩;exact⟨ai (by rw[bl,if_pos hn]),Ib _ _⟩
 .rcases h with rfl|⟨b,off,rfl,hb,hr⟩
  .refine(gC a cap w).mono ?_
   rintro e w' ⟨rfl,rfl⟩;exact⟨rfl,Ib _ _⟩
  .exact iP ms b off cap w hr hb (by omega) hs
theorem dO(a b:List bL)(va vb:Value)(pb cap:Nat)(w:World)(ha:Sl w va a)(hb:Sl w vb b)(hpb:pb<w.heap.size)(hc0:w.cell? ⟨pb,0,be⟩=AI va)(hc1:w.cell? ⟨pb,1,be⟩=AI vb) :
 Calls AS 173 #[J (AI ⟨pb,0,be⟩) 2 cap] w λe w'=>e=AT (U O (aP a b))/\Below w.heap.size w w':=by
 have HA:Hid (Sl w va a):=ha;have HB:Hid (Sl w vb b):=hb;clear ha hb;go_enter Tryz.func173,Tryz.ntmps173;go_wp2_with fail;go_loopw [8] (λi w'=>∃k:Nat,k<=2/\i=U O k/\Below w.heap.size w w'/\Hid (0<k->bl a=0)/\Hid (1<k->bl b=0)) (λi _=>2-(intOf i).toNat)
 case atStart=>exact⟨0,by omega,rfl,Ib _ _,λh=>by omega,λh=>by omega⟩
 case round=>
  obtain⟨k,hk,rfl,aR,di,da⟩:=hrel;obtain⟨eM,nQ⟩:=cC aR;have cI:=aR.size;have GG:Hid (Sl wr va a):=HA.out.below aR;have GH:Hid (Sl wr vb b):=HB.out.below aR;have gr:k=0\/k=1\/k=2:=by omega
  rcases gr with rfl|rfl|rfl
  .rcases he:decide (bl a=0) with _|_
   .have kW:(bl a !=0)=true:=by simpa using he
    clear he;go_wp2_with (go_at_call 100;refine(bq a _ _ GG.out).mono ?_;rintro e w' ⟨rfl,aK⟩);go_ret;exact⟨ai (by have h0:bl a≠0:=(by simpa using kW);rw[aP,if_neg h0]),aR.trans (aK.mono cI)⟩
   .have kW:(bl a !=0)=false:=by simpa using he
    clear he;go_wp2_with (go_at_call 100;refine(bq a _ _ GG.out).mono ?_;rintro e w' ⟨rfl,aK⟩);go_roundw
    case rel=>exact⟨1,by omega,by go_num,aR.trans (aK.mono cI),λ_=>(by simpa using kW),λh=>by omega⟩
    case measure=>simp[intOf]
  .have h0:Hid _:=di.out (by omega)
   rcases he:decide (bl b=0) with _|_
   .have kW:(bl b !=0)=true:=by simpa using he
    clear he;go_wp2_with (go_at_call 100;refine(bq b _ _ GH.out).mono ?_;rintro e w' ⟨rfl,aK⟩);go_ret;exact⟨ai (by rw[aP,if_pos h0.out]),aR.trans (aK.mono cI)⟩
   .have kW:(bl b !=0)=false:=by simpa using he
    clear he;go_wp2_with (go_at_call 100;refine(bq b _ _ GH.out).mono ?_;rintro e w' ⟨rfl,aK⟩);go_roundw
    case rel=>exact⟨2,by omega,by go_num,aR.trans (aK.mono cI),λ_=>h0.out,λ_=>(by simpa using kW)⟩
    case measure=>simp[intOf]
  .go_wp2_with fail
   go_ret;exact⟨ai (by rw[aP,if_pos (di.out (by omega)),da.out (by omega)]),aR⟩
theorem mT(a b:List bL)(va vb:Value)(pb cap:Nat)(w:World)(ha:Sl w va a)(hb:Sl w vb b)(hpb:pb<w.heap.size)(hc0:w.cell? ⟨pb,0,be⟩=AI va)(hc1:w.cell? ⟨pb,1,be⟩=AI vb)(aQ:aP a b≠0) :
 Calls AS 110 #[J (AI ⟨pb,0,be⟩) 2 cap] w λe w'=>e=AT (Ik #[J be 0 0,U O (aE a b)])/\Below w.heap.size w w':=by
 have he:(aP a b !=0)=true:=by simpa using aQ
 have HE:Hid (aE a b=aP a b):=if_neg aQ;have qp:=dO a b va vb pb cap w ha hb hpb hc0 hc1;have HC:Hid (Calls _ _ _ _ _):=qp;clear qp ha hb aQ;go_enter Tryz.func110,Tryz.ntmps110;go_wp2_with (go_at_call 173;refine HC.out.mono ?_;rintro e w' ⟨rfl,aK⟩);go_ret2;exact⟨by rw[HE.out];rfl,aK⟩
theorem lj(a b:List bL)(va vb:Value)(pb cap:Nat)(w:World)(ha:Sl w va a)(hb:Sl w vb b)(hpb:pb<w.heap.size)(hc0:w.cell? ⟨pb,0,be⟩=AI va)(hc1:w.cell? ⟨pb,1,be⟩=AI vb)(h0:aP a b=0) :
 Calls AS 110 #[J (AI ⟨pb,0,be⟩) 2 cap] w λe w'=>∃v',e=AT (Ik #[v',U O (aE a b)])/\Below w.heap.size w w' /\
  (6<(av a b).length->v'=J be 0 0)/\((av a b).length<=6->Own w.heap.size w' v' (av a b)):=by
 have he:(aP a b !=0)=false:=by simpa using h0
 have DL:bl a=0:=by unfold aP at h0;split at h0<;>assumption
 have Rh:bl b=0:=by unfold aP at h0;rw[if_pos DL] at h0;exact h0
 have za:=af DL;have zb:=af Rh;have HE:Hid (aE a b=if 6<(av a b).length then 2 else 0):=if_pos h0;have HC:Hid (Calls _ _ _ _ _):=dO a b va vb pb cap w ha hb hpb hc0 hc1;have HJ:Hid (∀w1,Below w.heap.size w w1->Calls AS 174 #[IT (.func 160) #[] #[],IT (.func 175) #[] #[],J (AI ⟨pb,0,be⟩) 2 cap] w1 λe w'=>∃v',e=AT v'/\Own w1.heap.size w' v' (av a b)/\Below w1.heap.size w1 w'):=λw1 aB=>
  iL a b va vb pb cap w1 (ha.below aB) (hb.below aB) (IL hpb aB.size) ((cC aB).1 pb 0 hpb |>.trans hc0) ((cC aB).1 pb 1 hpb |>.trans hc1) za.1 zb.1 za.2.1
 have ED:(av a b).length<=12:=by have h1:=dj b a;have h2:=za.1;have h3:=zb.1;omega
 clear h0 DL Rh za zb ha hb hc0 hc1;generalize av a b=jl at *;generalize Hp:jl.length=n at *;have WW:Hid _:=Hp;clear Hp;go_enter Tryz.func110,Tryz.ntmps110;go_wp2_with (go_at_call 173;refine HC.out.mono ?_;rintro e w1 ⟨rfl,aB⟩);refine(HJ.out w1 aB).mono ?_;rintro e w2 ⟨v',rfl,ho,aK⟩;have Aa:∃p c,v'=J p n c:=by
  have hn:=WW.out;rcases ho.2 with⟨h,h0⟩|⟨g,c,cur,h,_⟩
  .exact⟨be,0,by rw[h];congr 1;omega⟩
  .exact⟨_,c,by rw[h,hn]⟩
 obtain⟨p,c,rfl⟩:=Aa;have Ri:Hid _:=aB.trans (aK.mono aB.size);have ec:Hid (Own _ _ _ _):=ho.mono aB.size;clear ho aB aK HC HJ;by_cases aX:6<n
 .go_wp2_with fail
  go_ret2;refine⟨_,by rw[HE.out,if_pos aX];rfl,Ri.out,λ_=>rfl,λh=>by omega⟩
 .go_wp2_with fail
  go_ret2;refine⟨J p n c,by rw[HE.out,if_neg aX];rfl,Ri.out,λh=>by omega,λ_=>ec.out⟩
end Gw
end Go.Proofs.YtfidhgjmifendaaGreatDoor
