import Derived.Test.YtfidjlcdlakceaaGreatDoorrt20
import Derived.Test.YtfidjlcdlakceaaGreatDoorrt14
import Derived.Shelf.SlSortFunc.HeapSort
set_option maxHeartbeats 12800000
set_option maxRecDepth 100000
open Go.Value renaming int→O,slice→U,string→I,pointer→Ig,func→I7,ownBlock→I2,tuple→Il
open Go.IntKind renaming i64→J
open Go.Ending renaming returned→sh
open Go.Proofs.Tryz renaming prog→be,func219→Qn,ntmps219→Qa,underlying111→Jn,isAgg9→J9,sizeOf9→JT,underlying297→QB
open Option renaming none→Y,some→Z
open Go renaming wp_loop_rounds→JQ,rounds_succ→Jx,maxLen→Ii,plainElem→Jk,heap_alloc_new→Ie,step_append_lies→Qz
open Go.Obj renaming cells→AI
open Go.World renaming new_ne→Jo,block_lt_of_cell?→IE
open ByteArray renaming empty→If
open Nat renaming lt_of_lt_of_le→Iu,le_refl→By,zero_le→IF
open Go.RowKit.Below renaming refl→Ia
open List renaming getD→Io,getElem?_eq_getElem→Ic,pairwise_cons→JF,mem_cons_self→JJ,mem_cons→Jr,take_succ_eq_append_getElem→Iw,take_of_length_le→IW,length_eq_zero_iff→O6
open Go.Proofs renaming sortWorld→Q4,cell?_sortWorld_other→Ql
open Go.Sort renaming ahead→Jq
open Array renaming extract_size→Uk,getElem?_eq_some_iff→Ib
namespace Go.Proofs.YtfidjlcdlakceaaGreatDoor
open Go.RowKit Go.WideMaps Go.Maps
def sO(a b:Int):Int:=if a<b then -1 else if b<a then 1 else 0
theorem uA(a b:Int)(w:World) :
 Calls be 220 #[O J a,O J b] w λe w'=>e=sh (O J (sO a b))/\w'=w:=by
 go_enter Tryz.func220,Tryz.ntmps220;go_wp2;all_goals
  go_ret;exact⟨aj (by unfold sO;(repeat' split)<;>omega),rfl⟩
def Lf(a b:Int):Int:=if a=0 then b else a
theorem Pu(a b:Int)(g:Nat)(c:Nat)(w:World)(h0:w.cell? ⟨g,0,Y⟩=Z (O J a))(h1:w.cell? ⟨g,1,Y⟩=Z (O J b)) :
 Calls be 219 #[U (Z ⟨g,0,Y⟩) 2 c] w λe w'=>e=sh (O J (Lf a b))/\w'=w:=by
 by_cases ha:a=0
 .subst ha
  by_cases hb:b=0
  .subst hb
   go_enter Qn,Qa;go_wp2_with fail;refine JQ 3 ?_;rw[Jx];go_wp2_with fail;rw[Jx];go_wp2_with fail;rw[Jx];go_wp2_with fail;go_ret;exact⟨rfl,rfl⟩
  .have Hi:(b !=0)=true:=by simpa using hb
   go_enter Qn,Qa;go_wp2_with fail;refine JQ 3 ?_;rw[Jx];go_wp2_with fail;rw[Jx];go_wp2_with fail;go_ret;exact⟨rfl,rfl⟩
 .have ha':(a !=0)=true:=by simpa using ha
  go_enter Qn,Qa;go_wp2_with fail;refine JQ 3 ?_;rw[Jx];go_wp2_with fail;go_ret;exact⟨aj (by unfold Lf;rw[if_neg ha]),rfl⟩
def dV(D:DataW Unit)(s:ByteArray):Int:=if Maps.has D (kS s)=true then(match D.atKey (kS s) (.lit (.int J 0)) with | .lit (.int _ c)=>c|_=>0) else 9223372036854775807
theorem Lg(s:ByteArray)(kb g n:Nat)(D:DataW Unit)(w:World)(hs:s.size<=Ii)(hk:w.cell? ⟨kb,0,Y⟩=Z (.map (Z g)))(hm:w.ownsMap be 9 (Jk (H:=Unit) be 3) g n D) :
 Calls be 266 #[I s,Ig (Z ⟨kb,0,Y⟩)] w λe w'=>e=sh (O J (dV D s))/\w'=w:=by
 obtain⟨c,hl,hc⟩:=vv hm hs;have HV:Hid (dV D s=if Maps.has D (kS s)=true then c else 9223372036854775807):=by
  show dV D s=_;unfold dV;rw[hc]
 clear hc hm;rcases hh:Maps.has D (kS s) with _|_
 .rw[hh] at hl
  have XL:Hid (dV D s=9223372036854775807):=by have h:=HV.out;rw[hh] at h;exact h
  clear HV;go_enter Tryz.func266,Tryz.ntmps266;go_wp2_with fail;go_ret;exact⟨aj XL.out.symm,rfl⟩
 .rw[hh] at hl
  have XL:Hid (dV D s=c):=by have h:=HV.out;rw[hh] at h;exact h
  clear HV;go_enter Tryz.func266,Tryz.ntmps266;go_wp2_with fail;go_ret;exact⟨aj XL.out.symm,rfl⟩
theorem Lh(a b:ByteArray)(db kb g n:Nat)(D:DataW Unit)(w:World)(ha:a.size<=Ii)(hb:b.size<=Ii)(hd:w.cell? ⟨db,0,Y⟩=Z (I7 (.func 266) #[] #[Ig (Z ⟨kb,0,Y⟩)]))(hk:w.cell? ⟨kb,0,Y⟩=Z (.map (Z g)))(hm:w.ownsMap be 9 (Jk (H:=Unit) be 3) g n D) :
 Calls be 269 #[I a,I b,Ig (Z ⟨db,0,Y⟩)] w λe w'=>e=sh (O J (Lf (sO (dV D a) (dV D b)) (bl a b)))/\w'=(w.alloc (AI #[O J (sO (dV D a) (dV D b)),O J (bl a b)] 3)).drew:=by
 have HD:Hid (∀s:ByteArray,(s=a\/s=b)->∀W:World,W.heap=w.heap->Calls be 266 #[I s,Ig (Z ⟨kb,0,Y⟩)] W λe w'=>e=sh (O J (dV D s))/\w'=W):=λs hs W hW=>by
  have bb:s.size<=Ii:=by rcases hs with rfl|rfl<;>assumption
  refine Lg s kb g n D W bb ?_ ?_
  .rw[<- hk];unfold World.cell?;rw[hW]
  .obtain⟨es,cl,h1,h2⟩:=hm
   exact⟨es,cl,by rw[hW];exact h1,h2⟩
 have h1:=Jo w _ hd;clear hm hk;go_enter Tryz.func269,Tryz.ntmps269;go_wp2_with fail;go_region_held3 (λw'=>w'.cell? ⟨db,0,Y⟩=Z (I7 (.func 266) #[] #[Ig (Z ⟨kb,0,Y⟩)])) (go_keep) (first|(go_at_call 266;refine(HD.out _ ?_ _ ?_).mono ?_;(focus simp);(focus rfl);rintro e w' ⟨rfl,rfl⟩)|(go_at_call 220;refine(uA _ _ _).mono ?_;rintro e w' ⟨rfl,rfl⟩)|(go_at_call 110;refine(fC _ _ _).mono ?_;rintro e w' ⟨rfl,rfl⟩)|(go_at_call 219;refine(Pu (sO (dV D a) (dV D b)) (bl a b) _ _ _ (dF rfl) (dF rfl)).mono ?_;rintro e w' ⟨rfl,rfl⟩))
 go_wp2_with fail;go_ret;exact⟨rfl,rfl⟩
end Go.Proofs.YtfidjlcdlakceaaGreatDoor
namespace Go.Proofs.YtfidjlcdlakceaaGreatDoor
open Go.RowKit
theorem below_drewN{B:Nat}{w w1:World}(h:Below B w w1)(m:Nat):Below B w (w1.drewN m):=⟨h.os,h.tape,h.output,h.size,h.block⟩
def Vz(w:World)(b off:Nat)(ss:List ByteArray):Prop:=∀j,j<ss.length->w.cell? ⟨b,off+j,Y⟩=Z (I (ss.getD j If))
def xx(w:World)(v:Value)(ss:List ByteArray):Prop:=
 ∃(a:Option Addr) (cap:Nat),v=U a ss.length cap/\(∀j,(ss.getD j If).size<=Ii)/\(ss=[]\/∃b off,a=Z ⟨b,off,Y⟩/\b<w.heap.size/\Vz w b off ss)
theorem xx.below{w w':World}{v:Value}{ss:List ByteArray}(h:xx w v ss)(hb:Below w.heap.size w w'):xx w' v ss:=by
 obtain⟨a,c,hv,hn,h⟩:=h;refine⟨a,c,hv,hn,?_⟩;rcases h with h|⟨b,off,ha,aB,hr⟩
 .exact .inl h
 .exact .inr ⟨b,off,ha,Iu aB hb.size,λj hj=>(hb.cell (p:=⟨b,off+j,Y⟩) aB).trans (hr j hj)⟩
theorem Bi(ss:List ByteArray)(v:Value)(w:World)(h:xx w v ss)(hn:ss.length<=1000) :
 Calls be 267 #[v] w λe w'=>∃v',e=sh v'/\df w.heap.size w' v' ss/\Below w.heap.size w w':=by
 obtain⟨a,cap,rfl,hs,h⟩:=h;obtain⟨i0,eP,cE,gn,ga⟩:=info_parts Tryz.wu;cases a with
 |none=>
  have he:ss=[]:=by
   rcases h with h|⟨b,off,h,_⟩
   .exact h
   .cases h
  subst he;clear h hs;have gY:=λ(w:World)=>Lib.run_eql_slice_nil (P:=be) w 111 9 Y 0 cap 0 0 Jn;simp only[List.length_nil,Option.isNone_none] at gY ⊢;go_enter Tryz.func267,Tryz.ntmps267;go_wp2_with fail;go_ret;exact⟨_,rfl,o0 _ _,Ia _ _⟩
 |some a=>
  have gY:=λ(w:World)=>Lib.run_eql_slice_nil (P:=be) w 111 9 (Z a) ss.length cap 0 0 Jn;simp only[Option.isNone_some] at gY;have hnews:Hid (∀j u,(ss.map I)[j]?=Z u->(w.alloc (AI #[] 9)).cell? (a.add j)=Z u):=by
   intro j u hj;rcases h with h|⟨b,off,h,hb,hr⟩
   .subst h;simp at hj
   .cases h
    have hl:j<ss.length:=by have:=(List.getElem?_eq_some_iff.1 hj).1;simpa using this
    rw[Addr.add_lit,World.cell?_alloc_past (w:=w) _ b _ hb,hr j hl];simpa[Io,Ic hl] using hj
  have HO:Hid ((w.alloc (AI #[] 9)).ownsRow w.heap.size 9 1 (U (Z ⟨w.heap.size,0,Y⟩) 0 0) 0 []):=World.ownsRow_made w #[] 0 (By _) (by unfold Ii;omega) rfl;clear h hs;go_enter Tryz.func267,Tryz.ntmps267;go_wp2_with (at_builtin;refine wpList_append_own _ rfl _ _ 111 rfl w.heap.size 9 i0 _ 1 16 Jn eP cE gn ga rfl (by omega) _ 0 [] rfl HO.out a ss.length cap (ss.map I) rfl (by simp) hnews.out (nS ss) (by unfold Ii;omega) (by omega) (by simp) ?_);intro v' w' r1 r2 r3;go_wp2_with fail;go_ret;refine⟨v',rfl,?_,?_⟩
  .simpa using r1
  .exact((Ia _ _).alloc (By _) _).grown r2 (by simp) (λk hk=>by simp[I2] at hk;omega)
end Go.Proofs.YtfidjlcdlakceaaGreatDoor
namespace Go.Proofs.YtfidjlcdlakceaaGreatDoor
namespace So
open Go.Sort
section
variable {α:Type}
abbrev Up(lt:α->α->Bool)(l:List α):Prop:=l.Pairwise λa b=>lt b a=false
theorem Sx{lt:α->α->Bool}(ha:∀a b,lt a b=false->lt b a=false->a=b):∀{l m:List α},l.Perm m->Up lt l->Up lt m->l=m
 |[],m,hp,_,_=>(List.Perm.nil_eq hp)
 |a::l,[],hp,_,_=>by have:=hp.length_eq;simp at this
 |a::l,b::m,hp,h1,h2=>by
  have GN:=JF.1 h1;have vB:=JF.1 h2;have MX:a=b:=by
   have m1:a∈b::m:=hp.mem_iff.1 (JJ ..);have m2:b∈a::l:=hp.mem_iff.2 (JJ ..);rcases Jr.1 m1 with e|e
   .exact e
   .rcases Jr.1 m2 with f|f
    .exact f.symm
    .exact ha a b (vB.1 a e) (GN.1 b f)
  subst MX;rw[Sx ha (List.Perm.cons_inv hp) GN.2 vB.2]
def pos(lt:α->α->Bool)(x:α):List α->Nat
 |[]=>0
 |y::r=>if lt x y=false then pos lt x r+1 else 0
def ins(lt:α->α->Bool)(x:α)(l:List α):List α:=l.take (pos lt x l)++x::l.drop (pos lt x l)
theorem yx(lt:α->α->Bool)(x:α)(l:List α):(ins lt x l).Perm (x::l):=by
 unfold ins;refine List.perm_middle.trans ?_;rw[List.take_append_drop]
theorem Li(lt:α->α->Bool)(x y:α)(r:List α):ins lt x (y::r)=if lt x y=false then y::ins lt x r else x::y::r:=by
 unfold ins;by_cases h:lt x y=false
 .rw[if_pos h,pos,if_pos h];rfl
 .rw[if_neg h,pos,if_neg h];rfl
theorem Lj{lt:α->α->Bool}(hs:SWO lt)(x:α):∀{l:List α},Up lt l->Up lt (ins lt x l)
 |[],_=>by simp[ins,pos]
 |y::r,h=>by
  have h':=JF.1 h;rw[Li];split
  .rename_i hy
   refine JF.2 ⟨λz hz=>?_,Lj hs x h'.2⟩;rcases Jr.1 ((yx lt x r).mem_iff.1 hz) with rfl|hz
   .exact hy
   .exact h'.1 z hz
  .rename_i hy
   have hy':lt x y=true:=by simpa using hy
   have hyx:lt y x=false:=by
    cases h2:lt y x
    .rfl
    .have:=hs.trans x y x hy' h2
     rw[hs.irrefl x] at this;cases this
   refine JF.2 ⟨λz hz=>?_,h⟩;rcases Jr.1 hz with rfl|hz
   .exact hyx
   .exact hs.ntrans z y x (h'.1 z hz) hyx
def dE(lt:α->α->Bool)(l:List α):List α:=l.foldl (λout x=>ins lt x out) []
theorem yy(lt:α->α->Bool)(l:List α)(k:Nat)(d:α)(hk:k<l.length):dE lt (l.take (k+1))=ins lt (l.getD k d) (dE lt (l.take k)):=by
 rw[Iw hk,dE,List.foldl_append];simp[Io,Ic hk,dE]
theorem mm{lt:α->α->Bool}(hs:SWO lt)(l:List α):∀k,Up lt (dE lt (l.take k))/\(dE lt (l.take k)).Perm (l.take k)
 |0=>by simp[dE]
 |k+1=>by
  obtain⟨h1,h2⟩:=mm hs l k;by_cases hk:k<l.length
  .rw[yy lt l k l[k] hk]
   refine⟨Lj hs _ h1,(yx _ _ _).trans ?_⟩;rw[Iw hk];have e:l.getD k l[k]=l[k]:=by simp[Io,Ic hk]
   rw[e];exact(List.Perm.cons _ h2).trans (List.perm_append_singleton _ _).symm
  .rw[IW (by omega)]
   rw[IW (by omega)] at h1 h2;exact⟨h1,h2⟩
theorem Bj(lt:α->α->Bool)(l:List α)(hs:SWO lt)(k:Nat)(hk:k<=l.length):(dE lt (l.take k)).length=k:=by
 rw[(mm hs l k).2.length_eq,List.length_take];omega
theorem EW{lt:α->α->Bool}(hs:SWO lt)(ha:∀a b,lt a b=false->lt b a=false->a=b){l m:List α}(hp:m.Perm l)(hu:Up lt m):m=dE lt l:=by
 obtain⟨h1,h2⟩:=mm hs l l.length;rw[List.take_length] at h1 h2;exact Sx ha (hp.trans h2.symm) hu h1
end
end So
end Go.Proofs.YtfidjlcdlakceaaGreatDoor
namespace Go.Proofs.YtfidjlcdlakceaaGreatDoor
open Go.RowKit Go.Sort Go.Lib Go.WideMaps Go.Maps
def cfN(d:ByteArray->Int)(a b:ByteArray):Int:=Lf (sO (d a) (d b)) (bl a b)
theorem Pv(d:ByteArray->Int)(a b:ByteArray):cfN d a b<0↔d a<d b\/(d a=d b/\bl a b<0):=by
 unfold cfN Lf sO;generalize d a=x;generalize d b=y
 repeat' split
 all_goals omega
def wO(d:ByteArray->Int)(a b:ByteArray):Bool:=decide (cfN d a b<0)
theorem yz(d:ByteArray->Int)(a b:ByteArray):wO d a b=true↔d a<d b\/(d a=d b/\bl a b<0):=by
 rw[wO,decide_eq_true_iff,Pv]
theorem pI(d:ByteArray->Int)(a b:ByteArray):wO d a b=false↔¬ (d a<d b\/(d a=d b/\bl a b<0)):=by
 rw[<- yz,Bool.not_eq_true]
theorem Pw{a b c:ByteArray}(h1:¬ bl a b<0)(h2:¬ bl b c<0):¬ bl a c<0:=λh=>by
 rcases Int.lt_trichotomy (bl a b) 0 with h3|h3|h3
 .exact h1 h3
 .have e:=(cK a b).1 h3
  rw[e] at h;exact h2 h
 .exact h2 (nx b a c ((pJ a b).1 h3) h)
theorem EX(d:ByteArray->Int):SWO (wO d) where
 irrefl x:=by rw[pI,vC];omega
 trans x y z h1 h2:=by
  rw[yz] at *;rcases h1 with h1|⟨h1,h3⟩
  .rcases h2 with h2|⟨h2,_⟩<;>omega
  .rcases h2 with h2|⟨h2,h4⟩
   .omega
   .exact .inr ⟨by omega,nx x y z h3 h4⟩
 ntrans x y z h1 h2:=by
  rw[pI] at *;rintro(h|⟨h,h3⟩)
  .omega
  .have hd:d x=d y/\d y=d z:=by omega
   exact Pw (λh4=>h1 (.inr ⟨hd.1,h4⟩)) (λh4=>h2 (.inr ⟨hd.2,h4⟩)) h3
theorem Lk(d:ByteArray->Int)(a b:ByteArray)(h1:wO d a b=false)(h2:wO d b a=false):a=b:=by
 rw[pI] at *;have hd:d a=d b:=by omega
 have h3:¬ bl a b<0:=λh=>h1 (.inr ⟨hd,h⟩);have h4:¬ bl b a<0:=λh=>h2 (.inr ⟨hd.symm,h⟩);have h5:=pJ a b;exact(cK a b).1 (by omega)
def GR(p:Pl)(ms:List Wh.cd)(ns:List ByteArray):List ByteArray:=So.dE (wO (dV (Dd (iv p) ms ms.length))) ns
end Go.Proofs.YtfidjlcdlakceaaGreatDoor
namespace Go.Proofs
open Go.Shelf
def Tryz.pK:Go.Shelf.Ren:=⟨fun|6=>268|15=>159|14=>287|28=>215|29=>216|20=>296|21=>297|22=>298|23=>299|24=>300|25=>301|26=>302|27=>303|46=>309|47=>256|48=>257|49=>310|50=>311|57=>313|n=>n,fun|22=>111|24=>9|25=>118|3=>3|39=>192|0=>0|53=>260|55=>262|4=>4|46=>267|45=>266|50=>82|5=>5|9=>9|66=>288|70=>292|76=>312|77=>313|n=>n,fun|n=>n⟩
theorem Tryz.Ll:Go.Proofs.SlLaysF.n6 be Tryz.pK:={
 mixed:=by kernel_rfl
 f6:=⟨Tryz.f268.name,by decide,Tryz.func268.trans (congrArg Z (by kernel_rfl))⟩
 f14:=⟨Tryz.f287.name,by decide,Tryz.func287.trans (congrArg Z (by kernel_rfl))⟩
 f15:=Tryz.func159.trans (congrArg Z (by kernel_rfl))
 f20:=⟨Tryz.f296.name,by decide,Tryz.func296.trans (congrArg Z (by kernel_rfl))⟩
 f21:=⟨Tryz.f297.name,by decide,Tryz.func297.trans (congrArg Z (by kernel_rfl))⟩
 f22:=⟨Tryz.f298.name,by decide,Tryz.func298.trans (congrArg Z (by kernel_rfl))⟩
 f23:=⟨Tryz.f299.name,by decide,Tryz.func299.trans (congrArg Z (by kernel_rfl))⟩
 f24:=⟨Tryz.f300.name,by decide,Tryz.func300.trans (congrArg Z (by kernel_rfl))⟩
 f25:=⟨Tryz.f301.name,by decide,Tryz.func301.trans (congrArg Z (by kernel_rfl))⟩
 f26:=⟨Tryz.f302.name,by decide,Tryz.func302.trans (congrArg Z (by kernel_rfl))⟩
 f27:=⟨Tryz.f303.name,by decide,Tryz.func303.trans (congrArg Z (by kernel_rfl))⟩
 f28:=Tryz.func215.trans (congrArg Z (by kernel_rfl))
 f29:=Tryz.func216.trans (congrArg Z (by kernel_rfl))
 f46:=⟨Tryz.f309.name,by decide,Tryz.func309.trans (congrArg Z (by kernel_rfl))⟩
 f47:=Tryz.func256.trans (congrArg Z (by kernel_rfl))
 f48:=Tryz.func257.trans (congrArg Z (by kernel_rfl))
 f49:=⟨Tryz.f310.name,by decide,Tryz.func310.trans (congrArg Z (by kernel_rfl))⟩
 f50:=⟨Tryz.f311.name,by decide,Tryz.func311.trans (congrArg Z (by kernel_rfl))⟩
 f57:=⟨Tryz.f313.name,by decide,Tryz.func313.trans (congrArg Z (by kernel_rfl))⟩
 t0:=Tryz.underlying0
 a0:=Tryz.isAgg0
 z0:=Tryz.sizeOf0
 v0:=Tryz.zeroValue0
 t3:=Tryz.underlying3
 a3:=Tryz.isAgg3
 z3:=Tryz.sizeOf3
 v3:=Tryz.zeroValue3
 t4:=Tryz.underlying4
 a4:=Tryz.isAgg4
 z4:=Tryz.sizeOf4
 v4:=Tryz.zeroValue4
 t5:=Tryz.underlying5
 a5:=Tryz.isAgg5
 z5:=Tryz.sizeOf5
 v5:=Tryz.zeroValue5
 t9:=Tryz.underlying9
 a9:=J9
 z9:=JT
 v9:=Tryz.zeroValue9
 t22:=Jn
 a22:=Tryz.isAgg111
 z22:=Tryz.sizeOf111
 v22:=Tryz.zeroValue111
 a24:=J9
 z24:=JT
 t25:=Tryz.underlying118
 a25:=Tryz.isAgg118
 z25:=Tryz.sizeOf118
 v25:=Tryz.zeroValue118
 t39:=Tryz.underlying192
 a39:=Tryz.isAgg192
 z39:=Tryz.sizeOf192
 v39:=Tryz.zeroValue192
 t45:=Tryz.underlying266
 a45:=Tryz.isAgg266
 z45:=Tryz.sizeOf266
 v45:=Tryz.zeroValue266
 t46:=Tryz.underlying267
 a46:=Tryz.isAgg267
 z46:=Tryz.sizeOf267
 v46:=Tryz.zeroValue267
 t50:=Tryz.underlying82
 a50:=Tryz.isAgg82
 z50:=Tryz.sizeOf82
 v50:=Tryz.zeroValue82
 t53:=Tryz.underlying260
 a53:=Tryz.isAgg260
 z53:=Tryz.sizeOf260
 v53:=Tryz.zeroValue260
 t55:=Tryz.underlying262
 a55:=Tryz.isAgg262
 z55:=Tryz.sizeOf262
 v55:=Tryz.zeroValue262
 t66:=Tryz.underlying288
 a66:=Tryz.isAgg288
 z66:=Tryz.sizeOf288
 v66:=Tryz.zeroValue288
 t70:=Tryz.underlying292
 a70:=Tryz.isAgg292
 z70:=Tryz.sizeOf292
 v70:=Tryz.zeroValue292
 t76:=Tryz.underlying312
 a76:=Tryz.isAgg312
 z76:=Tryz.sizeOf312
 v76:=Tryz.zeroValue312
 t77:=Tryz.underlying313
 a77:=Tryz.isAgg313
 z77:=Tryz.sizeOf313
 v77:=Tryz.zeroValue313 }
end Go.Proofs
namespace Go.Proofs.YtfidjlcdlakceaaGreatDoor
open Go.RowKit Go.Sort Go.Shelf Go.Lib Go.WideMaps Go.Maps
def nm(ns:List ByteArray)(x:Nat):ByteArray:=ns.getD x If
def Lm(ns:List ByteArray)(d:ByteArray->Int)(m:Nat)(x y:Fin (m+1)):Int:=cfN d (nm ns x.val) (nm ns y.val)
theorem VA(ns:List ByteArray)(d:ByteArray->Int)(m:Nat)(x y:Fin (m+1)):ltOf (Lm ns d m) x y=wO d (nm ns x.val) (nm ns y.val):=rfl
theorem aat(ns:List ByteArray)(d:ByteArray->Int)(m:Nat):SWO (ltOf (Lm ns d m)) where
 irrefl _:=(EX d).irrefl _
 trans _ _ _ h1 h2:=(EX d).trans _ _ _ h1 h2
 ntrans _ _ _ h1 h2:=(EX d).ntrans _ _ _ h1 h2
def pL(ns:List ByteArray)(m:Nat)(x:Fin (m+1)):Value:=I (nm ns x.val)
def gP(m:Nat):Array (Fin (m+1)):=Array.ofFn (λx=>x)
theorem fx(m:Nat):(gP m).size=m+1:=by simp[gP]
theorem EY(m j:Nat)(hj:j<m+1):(gP m)[j]! = ⟨j,hj⟩:=by
 rw[getElem!_pos _ j (by rw[fx];exact hj)];simp[gP]
theorem Bk(ns:List ByteArray)(m:Nat)(hn:ns.length=m+1):(gP m).toList.map (λx=>nm ns x.val)=ns:=by
 apply List.ext_getElem
 .simp[gP,hn]
 .intro j h1 h2
  rw[List.getElem_map,Array.getElem_toList];simp only[gP,Array.getElem_ofFn,nm];simp[Io,Ic h2]
theorem yA(W:World)(o:Obj):(W.alloc o).drew=grow (W.drewN 1) #[o]:=by
 simp only[grow,World.alloc,World.drew,World.drewN,Array.push_eq_append]
theorem kD{α:Type}[Inhabited α](enc:α->Value)(w:World)(b off q g:Nat)(dk:Array α)(os:Array Obj)(bE:g≠b)(hl:g<w.heap.size):(Q4 enc w b off q dk os).heap[g]?=w.heap[g]?:=by
 unfold Q4;rw[Go.Sort.heap_grow_old _ _ (by simp[putRow,mapBlock,Jq];omega)]
 have:b≠g:=λe=>bE e.symm
 simp[putRow,mapBlock,Jq,Array.getElem?_modify,this]
theorem qj{α:Type}[Inhabited α](enc:α->Value){B:Nat}{w:World}{g off n:Nat}{d:Array α}{os:Array Obj}(hg:B<=g)(hB:B<=w.heap.size):Below B w (Q4 enc w g off n d os):=
 ⟨rfl,rfl,rfl,by simp[Q4,putRow,mapBlock,Jq,grow],λk hk=>kD enc w g off n k d os (by omega) (by omega)⟩
theorem afD(ns:List ByteArray)(m db kb g n gb:Nat)(D:DataW Unit)(w:World)(bb:∀j,(nm ns j).size<=Ii)(hd:w.cell? ⟨db,0,Y⟩=Z (I7 (.func 266) #[] #[Ig (Z ⟨kb,0,Y⟩)]))(hk:w.cell? ⟨kb,0,Y⟩=Z (.map (Z g)))(hm:w.ownsMap be 9 (Jk (H:=Unit) be 3) g n D)(h1:db≠gb)(h2:kb≠gb)(h3:g≠gb) :
 CmpLays1 be 269 #[Ig (Z ⟨db,0,Y⟩)] (pL ns m) (Lm ns (dV D) m) gb 0 (gP m).size w:=by
 intro q os dk hs x y;have dX:db<w.heap.size:=IE w _ hd;have dK:kb<w.heap.size:=IE w _ hk;have uT:g<w.heap.size:=hm.lt;have c1:=(Ql (pL ns m) w gb 0 q dk os ⟨db,0,Y⟩ h1 dX).trans hd;have c2:=(Ql (pL ns m) w gb 0 q dk os ⟨kb,0,Y⟩ h2 dK).trans hk;have m1:(Q4 (pL ns m) w gb 0 q dk os).ownsMap be 9 (Jk (H:=Unit) be 3) g n D:=by
  obtain⟨es,cl,e1,e2⟩:=hm;exact⟨es,cl,(kD (pL ns m) w gb 0 q g dk os h3 uT).trans e1,e2⟩
 refine(Lh _ _ db kb g n D _ (bb x.val) (bb y.val) c1 c2 m1).mono ?_;rintro e w' ⟨rfl,rfl⟩;exact⟨rfl,1,_,yA _ _⟩
theorem EZ{ns:List ByteArray}{d:ByteArray->Int}{m:Nat}{d':Array (Fin (m+1))}(hn:ns.length=m+1)(hp:PermIn 0 (gP m).size (gP m) d')(hs:SortedIn (ltOf (Lm ns d m)) 0 (gP m).size d') :
 d'.toList.map (λx=>nm ns x.val)=So.dE (wO d) ns:=by
 obtain⟨bb,_,yB⟩:=hp;rw[Uk,show d'.extract 0 (gP m).size=d' by rw[<- bb,Uk]] at yB;refine So.EW (EX d) (Lk d) ?_ ?_
 .have h:=yB.map (λx=>nm ns x.val)
  rw[Bk ns m hn] at h;exact h
 .have VB:d'.size=m+1:=by rw[bb,fx]
  refine List.pairwise_iff_getElem.2 λi j hi hj kR=>?_;have gd:j<d'.size:=by simpa using hj
  have hi':i<d'.size:=by omega
  have h:=hs i j (IF _) kR (by rw[fx];omega);rw[getElem!_pos d' j gd,getElem!_pos d' i hi',VA] at h;simpa using h
theorem E5(ns:List ByteArray)(m db kb g n gb c:Nat)(D:DataW Unit)(w:World)(hn:ns.length=m+1)(Aw:m<1000)(bb:∀j,(nm ns j).size<=Ii)(hd:w.cell? ⟨db,0,Y⟩=Z (I7 (.func 266) #[] #[Ig (Z ⟨kb,0,Y⟩)]))(hk:w.cell? ⟨kb,0,Y⟩=Z (.map (Z g)))(hm:w.ownsMap be 9 (Jk (H:=Unit) be 3) g n D)(h1:db≠gb)(h2:kb≠gb)(h3:g≠gb)
 (bj:∀j,j<m+1->w.cell? ⟨gb,j,Y⟩=Z (I (nm ns j))) (iz:∀j,w.frozen? ⟨gb,j,Y⟩=false) {B:Nat} (hB:B<=gb) :
 Calls be 268 #[U (Z ⟨gb,0,Y⟩) (m+1) c,I7 (.func 269) #[] #[Ig (Z ⟨db,0,Y⟩)]] w λe w'=>e=sh (Il #[])/\xx w' (U (Z ⟨gb,0,Y⟩) (m+1) c) (So.dE (wO (dV D)) ns)/\Below B w w'/\∀j,w'.frozen? ⟨gb,j,Y⟩=false:=by
 have eg:∀args w,(callFunc 269 args).run be w=.ok (.enter 269 args) w:=enters_of Tryz.func269 (by kernel_rfl) rfl;have mA:gb<w.heap.size:=IE w ⟨gb,0,Y⟩ (bj 0 (by omega));have HHH:Holds (pL ns m) w gb 0 (gP m):=λj hj=>by
  rw[fx] at hj;rw[EY m j hj,Nat.zero_add];exact⟨bj j hj,iz j⟩
 have mC:=Any.slices_SortFunc Tryz.Ll (pL ns m) (λ_=>rfl) (Lm ns (dV D) m) (aat ns (dV D) m) 269 #[Ig (Z ⟨db,0,Y⟩)] gb 0 c (gP m) w eg (afD ns m db kb g n gb D w bb hd hk hm h1 h2 h3) HHH mA (by rw[fx];omega);rw[show U (Z ⟨gb,0,Y⟩) (gP m).size c=U (Z ⟨gb,0,Y⟩) (m+1) c by rw[fx]] at mC;refine mC.mono ?_;rintro e w2 ⟨rfl,d',nd,os,hp,hs,qR⟩;have hL:=EZ hn hp hs;have VB:d'.size=m+1:=by rw[hp.1,fx]
 have hlen:(So.dE (wO (dV D)) ns).length=m+1:=by rw[<- hL];simp[VB]
 refine⟨rfl,⟨Z ⟨gb,0,Y⟩,c,by rw[hlen],λj=>?_,.inr ⟨gb,0,rfl,?_,λj hj=>?_⟩⟩,?_,λj=>?_⟩
 .by_cases hj:j<(So.dE (wO (dV D)) ns).length
  .have MS:(So.dE (wO (dV D)) ns).getD j If∈So.dE (wO (dV D)) ns:=by simp[Io,Ic hj]
   rw[<- hL] at MS;obtain⟨x,_,hx⟩:=List.mem_map.1 MS;rw[hL] at hx;rw[<- hx];exact bb x.val
  .rw[show(So.dE (wO (dV D)) ns).getD j If=If by simp[Io,List.getElem?_eq_none (by omega:(So.dE (wO (dV D)) ns).length<=j)]]
   decide
 .rw[qR]
  exact Iu mA (qj (pL ns m) (B:=0) (IF _) (IF _)).size
 .have gd:j<m+1:=by rw[hlen] at hj;exact hj
  have e1:=cell?_putRow (pL ns m) (Jq w nd) gb 0 (gP m) d' (show Holds (pL ns m) (Jq w nd) gb 0 (gP m) from HHH) hp.1 j (by omega);have e2:w2.cell? ⟨gb,0+j,Y⟩=(putRow (pL ns m) (Jq w nd) gb 0 d').cell? ⟨gb,0+j,Y⟩:=by
   rw[qR];exact cell?_grow _ _ _ (IE (putRow (pL ns m) (Jq w nd) gb 0 d') ⟨gb,0+j,Y⟩ e1)
  rw[e2,e1,getElem!_pos d' j (by omega)];have e3:(So.dE (wO (dV D)) ns).getD j If=nm ns (d'[j]'(by omega)).val:=by
   rw[<- hL];simp[Io,VB,gd]
  rw[e3];rfl
 .rw[qR]
  exact qj (pL ns m) hB (by omega)
 .rw[qR]
  exact(frozen?_grow _ _ ⟨gb,j,Y⟩ (by simpa[putRow,mapBlock,Jq] using mA)).trans ((frozen?_putRow _ _ _ _ _ _).trans (iz j))
end Go.Proofs.YtfidjlcdlakceaaGreatDoor
namespace Go.Proofs.YtfidjlcdlakceaaGreatDoor
open Go.RowKit Go.Shelf Go.Lib Go.WideMaps Go.Maps
def Px(B:Nat)(w:World)(v:Value):Prop:=∀g,v.ownBlock=Z g->B<=g/\g<w.heap.size/\∀j,w.frozen? ⟨g,j,Y⟩=false
theorem Px.mono{B B':Nat}{w:World}{v:Value}(h:Px B w v)(hb:B'<=B):Px B' w v:=λg hg=>⟨Nat.le_trans hb (h g hg).1,(h g hg).2⟩
theorem E7(ns:List ByteArray)(D:DataW Unit)(n B db kb g:Nat)(vs:Value)(w:World)(ho:df B w vs ns)(hl:ns.length<=100)(bb:∀j,(ns.getD j If).size<=Ii)(hd:w.cell? ⟨db,0,Y⟩=Z (I7 (.func 266) #[] #[Ig (Z ⟨kb,0,Y⟩)]))(hk:w.cell? ⟨kb,0,Y⟩=Z (.map (Z g)))(hm:w.ownsMap be 9 (Jk (H:=Unit) be 3) g n D)(h1:db<B)(h2:kb<B)(h3:g<B) :
 Calls be 268 #[vs,I7 (.func 269) #[] #[Ig (Z ⟨db,0,Y⟩)]] w λe w'=>e=sh (Il #[])/\xx w' vs (So.dE (wO (dV D)) ns)/\Px B w' vs/\Below B w w':=by
 rcases ho.2 with⟨hv,h0⟩|⟨gb,c,cur,hv,dN,hg,fa,dO,cJ,aV⟩
 .subst hv
  have he:ns=[]:=O6.1 h0;subst he;refine(show Calls be 268 #[U Y 0 0,I7 (.func 269) #[] #[Ig (Z ⟨db,0,Y⟩)]] w λe w'=>e=sh (Il #[])/\w'=w from AnyF.slices_SortFunc_none (P:=be) (ρ:=Tryz.pK) { Tryz.Ll with } Y 0 _ w).mono ?_;rintro e w' ⟨rfl,rfl⟩;exact⟨rfl,⟨Y,0,rfl,λj=>by simp[So.dE],.inl rfl⟩,(λg hg=>by cases hg),Ia _ _⟩
 .subst hv
  by_cases h0:ns=[]
  .subst h0
   refine(show Calls be 268 #[U (Z ⟨gb,0,Y⟩) 0 c,I7 (.func 269) #[] #[Ig (Z ⟨db,0,Y⟩)]] w λe w'=>e=sh (Il #[])/\w'=w from AnyF.slices_SortFunc_none (P:=be) (ρ:=Tryz.pK) { Tryz.Ll with } (Z ⟨gb,0,Y⟩) c _ w).mono ?_;rintro e w' ⟨rfl,rfl⟩;refine⟨rfl,⟨Z ⟨gb,0,Y⟩,c,rfl,λj=>by simp[So.dE],.inl rfl⟩,λg iQ=>?_,Ia _ _⟩;obtain rfl:gb=g:=by simpa[I2] using iQ
   exact⟨dN,(Ib.1 hg).1,λj=>World.ownsRow.frozenAt ho j⟩
  .obtain⟨m,hn⟩:∃m,ns.length=m+1:=⟨ns.length-1,by have:=List.length_pos_iff.2 h0;omega⟩
   have bj:∀j,j<m+1->w.cell? ⟨gb,j,Y⟩=Z (I (nm ns j)):=λj hj=>by
    rw[World.ownsRow.cellAt ho j (by omega)];simp[nm,Io,Ic (show j<ns.length by omega)]
   have iz:∀j,w.frozen? ⟨gb,j,Y⟩=false:=λj=>World.ownsRow.frozenAt ho j;have h:=E5 ns m db kb g n gb c D w hn (by omega) bb hd hk hm (by omega) (by omega) (by omega) bj iz dN;rw[hn];refine h.mono ?_;rintro e w' ⟨h1,h2,h3,h4⟩;refine⟨h1,h2,λg iQ=>?_,h3⟩;obtain rfl:gb=g:=by simpa[I2] using iQ
   exact⟨dN,Iu (Ib.1 hg).1 h3.size,h4⟩
theorem E9(p:Pl)(ms:List Wh.cd)(v vn:Value)(ns:List ByteArray)(w:World)(hv:Wh.Sl w v ms)(ht:xx w vn ns)(hn:ms.length<=100)(hm:ns.length<=100)(hb:gN (p::(dD ms).map dz)=0) :
 Calls be 243 #[.agg #[O J p.x,O J p.y,O J p.z,O J p.h,O J p.s],v,vn] w λe w'=>∃v',e=sh (Il #[v',O J 0])/\xx w' v' (GR p ms ns)/\Px w.heap.size w' v'/\Below w.heap.size w w':=by
 obtain⟨i0,eP,cE,gn,ga⟩:=info_parts Tryz.Bf;have MV:(dD ms).length=ms.length:=sL ms;have hz:=(iK _).1 hb;have mU:uy p:=(rM p).1 (by have:=hz 0 (by simp);simpa using this);have aav:∀j,j<ms.length->uy (dz (mH (ms.getD j Wh.dm))):=λj hj=>by
  have:=hz (j+1) (by simp[MV];exact hj);refine(rM _).1 ?_;simpa[Io,dD,Ic hj] using this
 have HV:Hid (Wh.Sl w v ms):=hv;have HTN:Hid (xx w vn ns):=ht;have HSZ:Hid (∀j,(ns.getD j If).size<=Ii):=by obtain⟨_,_,_,h,_⟩:=ht;exact h
 have HDI:Hid (∀W,Wh.Sl W v ms->Calls be 265 #[.agg #[O J p.x,O J p.y,O J p.z,O J p.h,O J p.s],v] W λe w'=>∃g,e=sh (.map (Z g))/\Hid (w'.ownsMap be 9 (Jk (H:=Unit) be 3) g ms.length (Dd (iv p) ms ms.length))/\W.heap.size<=g/\g<w'.heap.size/\Below W.heap.size W w'):=λW h=>uz p ms v W h hn mU aav;have Xw:Hid (∀W,xx W vn ns->Calls be 267 #[vn] W λe w'=>∃v',e=sh v'/\Hid (df W.heap.size w' v' ns)/\Below W.heap.size W w'):=λW h=>Bi ns vn W h (by omega);have Py:Hid (∀(B db kb g:Nat) (vs:Value) (W:World),df B W vs ns->W.cell? ⟨db,0,Y⟩=Z (I7 (.func 266) #[] #[Ig (Z ⟨kb,0,Y⟩)])->W.cell? ⟨kb,0,Y⟩=Z (.map (Z g))->W.ownsMap be 9 (Jk (H:=Unit) be 3) g ms.length (Dd (iv p) ms ms.length)->db<B->kb<B->g<B ->
  Calls be 268 #[vs,I7 (.func 269) #[] #[Ig (Z ⟨db,0,Y⟩)]] W λe w'=>e=sh (Il #[])/\Hid (xx w' vs (GR p ms ns))/\Hid (Px B w' vs)/\Below B W w'):=λB db kb g vs W h1 h2 h3 h4 h5 h6 h7=>E7 ns _ ms.length B db kb g vs W h1 hm HSZ.out h2 h3 h4 h5 h6 h7
 obtain⟨pa,ca,oR,_,_⟩:=hv;obtain⟨pn,cn,Pz,_,_⟩:=ht;subst oR Pz;have h1:decide (100<(ms.length:Int))=false:=by simp;omega
 have h2:decide (100<(ns.length:Int))=false:=by simp;omega
 have Po:Hid ((dD ms).length=ms.length):=MV;have HP0:Hid (ms.length=0->∀W,Calls be 264 #[U pa ms.length ca] W λe w'=>e=sh (U Y 0 0)/\Below W.heap.size W w'):=λh0 W=>by
  rw[h0];refine(qg pa ca W).mono ?_;rintro e w' ⟨rfl,rfl⟩;exact⟨rfl,Ia _ _⟩
 have HP1:Hid (0<ms.length->∀W,Wh.Sl W (U pa ms.length ca) ms->Calls be 264 #[U pa ms.length ca] W λe w'=>∃g c,e=sh (U (Z ⟨g,0,Y⟩) ms.length c)/\Pc.Own W.heap.size w' (U (Z ⟨g,0,Y⟩) ms.length c) (dD ms)/\Below W.heap.size W w'):=λmG W h=>by
  refine(sM ms _ W h hn).mono ?_;rintro e w' ⟨v',rfl,ho,aL⟩;obtain⟨g,c,oR⟩:=Pc.jG ho 0 (by rw[Po.out];exact mG);subst oR;rw[Po.out] at ho;exact⟨g,c,by rw[Po.out],ho,aL⟩
 have uW:Hid (ms.length=0->∀g W,pG W g 0 [p]->Calls be 263 #[U (Z ⟨g,0,Y⟩) 1 1] W λe w'=>e=sh (O J 0)/\Below W.heap.size W w'):=λh0 g W h=>by
  have h2:=gD [p] g 0 1 1 W rfl h (by omega);have e:(dD ms).map dz=[]:=by rw[O6.1 h0];rfl
  rw[e] at hb;rw[hb] at h2;exact h2
 have mD:Hid (∀g c W,pG W g 0 (p::(dD ms).map dz)->Calls be 263 #[U (Z ⟨g,0,Y⟩) (1+ms.length) c] W λe w'=>e=sh (O J 0)/\Below W.heap.size W w'):=λg c W h=>by
  have h2:=gD (p::(dD ms).map dz) g 0 (1+ms.length) c W (by simp[Po.out];omega) h (by omega);rw[hb] at h2;exact h2
 clear hb hz mU aav MV;generalize GR p ms ns=SL at *;generalize Dd (iv p) ms ms.length=DD at *;generalize qK:ms.length=n at *;generalize hnb:ns.length=nl at *;clear qK hnb;go_enter Tryz.func243,Tryz.ntmps243;go_wp2_with fail;obtain⟨W,hW⟩:∃W,W=w.alloc (AI #[O J p.x,O J p.y,O J p.z,O J p.h,O J p.s] 27):=⟨_,rfl⟩;rw[<- hW];have eG:Below w.heap.size w W:=by rw[hW];exact(Ia _ _).alloc (By _) _
 have lX:W.heap[w.heap.size]?=Z (AI #[O J p.x,O J p.y,O J p.z,O J p.h,O J p.s] 27 (0,0)):=by rw[hW];exact Ie w _
 have pY:W.heap.size=w.heap.size+1:=by rw[hW];simp
 have n0:W.cell? ⟨w.heap.size,0,Y⟩=Z (O J p.x):=af lX 0;have n1:W.cell? ⟨w.heap.size,1,Y⟩=Z (O J p.y):=af lX 1;have n2:W.cell? ⟨w.heap.size,2,Y⟩=Z (O J p.z):=af lX 2;have n3:W.cell? ⟨w.heap.size,3,Y⟩=Z (O J p.h):=af lX 3;have n4:W.cell? ⟨w.heap.size,4,Y⟩=Z (O J p.s):=af lX 4;have HVW:Hid (∀W',Below W.heap.size W W'->Wh.Sl W' (U pa n ca) ms):=λW' h=>(HV.out.below eG).below h;have uv:Hid (Below w.heap.size w W):=eG;have e0:=Jo W _ n0;have e1:=Jo W _ n1;have e2:=Jo W _ n2;have e3:=Jo W _ n3;have e4:=Jo W _ n4;clear lX hW eG;have h63:1+n<=Ii:=by unfold Ii;omega
 have Ng:(1+n)*40<=140737488355328:=by omega
 have qP:(Pc.fl (dD ms)).length=n*5:=by rw[Pc.cS,Po.out]
 have Nh:(U (Z ⟨w.heap.size+1,0,Y⟩) 1 1).ownBlock≠Z w.heap.size:=λh=>by simp[I2] at h
 rcases Nat.eq_zero_or_pos n with mG|mG
 .subst mG
  have HP:Hid (∀W,Calls be 264 #[U pa 0 ca] W λe w'=>e=sh (U Y 0 0)/\Below W.heap.size W w'):=HP0.out rfl;have HK:Hid (∀g W,pG W g 0 [p]->Calls be 263 #[U (Z ⟨g,0,Y⟩) 1 1] W λe w'=>e=sh (O J 0)/\Below W.heap.size W w'):=uW.out rfl;go_region_held3 (λw'=>w'.cell? ⟨w.heap.size,0,Y⟩=Z (O J p.x)/\w'.cell? ⟨w.heap.size,1,Y⟩=Z (O J p.y)/\w'.cell? ⟨w.heap.size,2,Y⟩=Z (O J p.z)/\w'.cell? ⟨w.heap.size,3,Y⟩=Z (O J p.h)/\w'.cell? ⟨w.heap.size,4,Y⟩=Z (O J p.s))
   (first
     |go_keep
     |(go_split_ands
       refine⟨?_,?_,?_,?_,?_⟩;all_goals ((rw[gK.cell (by show w.heap.size<_;have h9:=bn.size;simp at h9 ⊢;omega)];first|assumption|simp[*])))
     |(go_split_ands
       refine⟨?_,?_,?_,?_,?_⟩;all_goals ((rw[bn.cell (by simp;omega)];first|assumption|simp[*])))
     )
   (first
     |(go_at_call 264;refine(HP.out _).mono ?_;rintro e w3 ⟨rfl,bn⟩)
     |(go_at_call 263;refine(HK.out _ _ (ml (mj pY bn))).mono ?_;rintro e w6 ⟨rfl,gK⟩)
     |(go_at_call 263;refine(HK.out _ _ (ml (Ie w3 _))).mono ?_;rintro e w6 ⟨rfl,gK⟩))
  all_goals
   have iW:Hid (Below w.heap.size w w6):=by
    first
     |exact((uv.out.alloc (by omega) _).drew.trans (bn.mono (by simp;omega))).trans (gK.mono (by have h9:=bn.size;simp at h9;omega))
     |exact((uv.out.drew.trans (bn.mono (by simp;omega))).alloc (by have:=bn.size;simp at this;omega) _).trans (gK.mono (by have h9:=bn.size;simp at h9 ⊢;omega))
   rename_i qb;clear gK bn Nh;obtain⟨f0,f1,f2,f3,f4⟩:=qb;have sG:=iW.out.size;go_wp2_with fail;refine(HDI.out _ (HV.out.below iW.out)).mono ?_;rintro e w7 ⟨g,rfl,HM7,bf,iQ,rF⟩;have rN:Hid (Below w.heap.size w w7):=iW.out.trans (rF.mono sG);have Ae:=rN.out.size;clear rF f0 f1 f2 f3 f4;go_wp2_with fail;obtain⟨W9,Fa⟩:∃W9,W9=(w7.alloc (AI #[.map (Z g)] 223)).alloc (AI #[I7 (.func 266) #[] #[Ig (Z ⟨w7.heap.size,0,Y⟩)]] 182):=⟨_,rfl⟩;rw[<- Fa];have tY:Below w7.heap.size w7 W9:=by rw[Fa];exact((Ia _ _).alloc (By _) _).alloc (by simp) _
   have hs9:W9.heap.size=w7.heap.size+2:=by rw[Fa];simp
   have k9:W9.cell? ⟨w7.heap.size,0,Y⟩=Z (.map (Z g)):=by
    rw[Fa];have h:=((Ia (w7.heap.size+1) (w7.alloc (AI #[.map (Z g)] 223))).alloc (by simp) (AI #[I7 (.func 266) #[] #[Ig (Z ⟨w7.heap.size,0,Y⟩)]] 182)).cell (p:=⟨w7.heap.size,0,Y⟩) (by show w7.heap.size<w7.heap.size+1;omega);exact h.trans (dF rfl)
   have d9:W9.cell? ⟨w7.heap.size+1,0,Y⟩=Z (I7 (.func 266) #[] #[Ig (Z ⟨w7.heap.size,0,Y⟩)]):=by
    rw[Fa];exact dF (by simp)
   have HM9:Hid (W9.ownsMap be 9 (Jk (H:=Unit) be 3) g _ DD):=iB HM7.out tY;have rI:Hid (Below w.heap.size w W9):=rN.out.trans (tY.mono Ae);clear Fa tY;refine(Xw.out _ (HTN.out.below rI.out)).mono ?_;rintro e w10 ⟨vs,rfl,VC,lx⟩;have k10:=(lx.cell (p:=⟨w7.heap.size,0,Y⟩) (by show w7.heap.size<_;omega)).trans k9;have d10:=(lx.cell (p:=⟨w7.heap.size+1,0,Y⟩) (by show w7.heap.size+1<_;omega)).trans d9;have VD:Hid (w10.ownsMap be 9 (Jk (H:=Unit) be 3) g _ DD):=iB HM9.out lx;have Ln:Hid (Below w.heap.size w w10):=rI.out.trans (lx.mono rI.out.size);clear lx k9 d9;go_wp2_with fail;refine(Py.out W9.heap.size (w7.heap.size+1) w7.heap.size g vs _ VC.out d10 k10 VD.out (by omega) (by omega) (by omega)).mono ?_;rintro e w11 ⟨rfl,PA,AV,Lo⟩;have HFW:Hid (Px w.heap.size w11 vs):=AV.out.mono rI.out.size;have Fb:Hid (Below w.heap.size w w11):=Ln.out.trans (Lo.mono rI.out.size);clear Lo d10 k10 AV;go_wp2_with fail;go_ret2;exact⟨vs,rfl,PA.out,HFW.out,Fb.out⟩
 .have HP:Hid (∀W,Wh.Sl W (U pa n ca) ms->Calls be 264 #[U pa n ca] W λe w'=>∃g c,e=sh (U (Z ⟨g,0,Y⟩) n c)/\Pc.Own W.heap.size w' (U (Z ⟨g,0,Y⟩) n c) (dD ms)/\Below W.heap.size W w'):=HP1.out mG
  have HK:=mD;go_region_held3 (λw'=>w'.cell? ⟨w.heap.size,0,Y⟩=Z (O J p.x)/\w'.cell? ⟨w.heap.size,1,Y⟩=Z (O J p.y)/\w'.cell? ⟨w.heap.size,2,Y⟩=Z (O J p.z)/\w'.cell? ⟨w.heap.size,3,Y⟩=Z (O J p.h)/\w'.cell? ⟨w.heap.size,4,Y⟩=Z (O J p.s))
   (first
     |go_keep
     |(go_split_ands
       refine⟨?_,?_,?_,?_,?_⟩;all_goals ((rw[gK.cell (by show w.heap.size<_;have h8:=bU.size;have h9:=bn.size;simp at h8 h9;omega)];assumption)))
     |(go_split_ands
       refine⟨?_,?_,?_,?_,?_⟩;all_goals ((rw[bU.cell_far _ (by show w.heap.size<_;have:=bn.size;simp at this ⊢;omega) (Ne.symm Nh)];assumption)))
     |(go_split_ands
       refine⟨?_,?_,?_,?_,?_⟩;all_goals ((rw[bU.cell_far _ (by show w.heap.size<_;have:=bn.size;simp at this ⊢;omega) (by simp[I2];have:=bn.size;simp at this;omega)];assumption)))
     |(go_split_ands
       refine⟨?_,?_,?_,?_,?_⟩;all_goals ((rw[bn.cell (by simp;omega)];first|assumption|simp[*])))
     )
   (first
     |(go_at_call 264;refine(HP.out _ (HVW.out _ ?_)).mono ?_;(focus (repeat(first|exact Ia _ _|refine Below.drew ?_|refine Below.alloc ?_ (by simp) _)));rintro e w3 ⟨g,c,rfl,nu,bn⟩)
     |(go_at_call 263;refine(HK.out _ _ _ (yt Po.out ib)).mono ?_;rintro e w6 ⟨rfl,gK⟩)
     |(refine Qz _ (by rfl) _ _ _ (by rfl) w.heap.size 27 i0 _ 5 40 QB eP cE gn ga rfl (by omega) (U (Z ⟨w.heap.size+1,0,Y⟩) 1 1) 1 p.v5 (by rfl) (oe (mj pY bn) (by omega)) ⟨g,0,Y⟩ n c (Pc.fl (dD ms)) (by rfl) qP (lF nu) (Pc.fL _) mG h63 Ng (by have:=bn.size;simp at this;omega) _ rfl ?_
       intro gg cap w5 ib bU cG aB)
     |(refine Qz _ (by rfl) _ _ _ (by rfl) w.heap.size 27 i0 _ 5 40 QB eP cE gn ga rfl (by omega) (U (Z ⟨w3.heap.size,0,Y⟩) 1 1) 1 p.v5 (by rfl) (oe (Ie w3 _) (by have:=bn.size;simp at this;omega)) ⟨g,0,Y⟩ n c (Pc.fl (dD ms)) (by rfl) qP (lF (nu.below ((Ia _ _).alloc (By _) _))) (Pc.fL _) mG h63 Ng (by have:=bn.size;simp at this ⊢;omega) _ rfl ?_
       intro gg cap w5 ib bU cG aB))
  all_goals
   have iW:Hid (Below w.heap.size w w6):=by
    first
     |exact((((uv.out.alloc (by omega) _).drew.trans (bn.mono (by simp;omega))).grown bU (by have:=bn.size;simp at this;omega) (λj hj=>by simp[I2] at hj;omega))).trans (gK.mono (by have h8:=bU.size;have h9:=bn.size;simp at h8 h9;omega))
     |exact(((uv.out.drew.trans (bn.mono (by simp;omega))).alloc (by have:=bn.size;simp at this;omega) _).grown bU (by have:=bn.size;simp at this ⊢;omega) (λj hj=>by simp[I2] at hj;have:=bn.size;simp at this;omega)).trans (gK.mono (by have h8:=bU.size;have h9:=bn.size;simp at h8 h9;omega))
   rename_i qb;clear gK bU ib cG aB bn nu Nh;obtain⟨f0,f1,f2,f3,f4⟩:=qb;have sG:=iW.out.size;go_wp2_with fail;refine(HDI.out _ (HV.out.below iW.out)).mono ?_;rintro e w7 ⟨g,rfl,HM7,bf,iQ,rF⟩;have rN:Hid (Below w.heap.size w w7):=iW.out.trans (rF.mono sG);have Ae:=rN.out.size;clear rF f0 f1 f2 f3 f4;go_wp2_with fail;obtain⟨W9,Fa⟩:∃W9,W9=(w7.alloc (AI #[.map (Z g)] 223)).alloc (AI #[I7 (.func 266) #[] #[Ig (Z ⟨w7.heap.size,0,Y⟩)]] 182):=⟨_,rfl⟩;rw[<- Fa];have tY:Below w7.heap.size w7 W9:=by rw[Fa];exact((Ia _ _).alloc (By _) _).alloc (by simp) _
   have hs9:W9.heap.size=w7.heap.size+2:=by rw[Fa];simp
   have k9:W9.cell? ⟨w7.heap.size,0,Y⟩=Z (.map (Z g)):=by
    rw[Fa];have h:=((Ia (w7.heap.size+1) (w7.alloc (AI #[.map (Z g)] 223))).alloc (by simp) (AI #[I7 (.func 266) #[] #[Ig (Z ⟨w7.heap.size,0,Y⟩)]] 182)).cell (p:=⟨w7.heap.size,0,Y⟩) (by show w7.heap.size<w7.heap.size+1;omega);exact h.trans (dF rfl)
   have d9:W9.cell? ⟨w7.heap.size+1,0,Y⟩=Z (I7 (.func 266) #[] #[Ig (Z ⟨w7.heap.size,0,Y⟩)]):=by
    rw[Fa];exact dF (by simp)
   have HM9:Hid (W9.ownsMap be 9 (Jk (H:=Unit) be 3) g _ DD):=iB HM7.out tY;have rI:Hid (Below w.heap.size w W9):=rN.out.trans (tY.mono Ae);clear Fa tY;refine(Xw.out _ (HTN.out.below rI.out)).mono ?_;rintro e w10 ⟨vs,rfl,VC,lx⟩;have k10:=(lx.cell (p:=⟨w7.heap.size,0,Y⟩) (by show w7.heap.size<_;omega)).trans k9;have d10:=(lx.cell (p:=⟨w7.heap.size+1,0,Y⟩) (by show w7.heap.size+1<_;omega)).trans d9;have VD:Hid (w10.ownsMap be 9 (Jk (H:=Unit) be 3) g _ DD):=iB HM9.out lx;have Ln:Hid (Below w.heap.size w w10):=rI.out.trans (lx.mono rI.out.size);clear lx k9 d9;go_wp2_with fail;refine(Py.out W9.heap.size (w7.heap.size+1) w7.heap.size g vs _ VC.out d10 k10 VD.out (by omega) (by omega) (by omega)).mono ?_;rintro e w11 ⟨rfl,PA,AV,Lo⟩;have HFW:Hid (Px w.heap.size w11 vs):=AV.out.mono rI.out.size;have Fb:Hid (Below w.heap.size w w11):=Ln.out.trans (Lo.mono rI.out.size);clear Lo d10 k10 AV;go_wp2_with fail;go_ret2;exact⟨vs,rfl,PA.out,HFW.out,Fb.out⟩
end Go.Proofs.YtfidjlcdlakceaaGreatDoor
