import Derived.Test.YtfidjlcdlakceaaGreatDoorrt8
set_option maxHeartbeats 800000
set_option maxRecDepth 100000
open Go.Value renaming bool→AT,int→O,string→I
namespace Go.Proofs.YtfidjlcdlakceaaGreatDoor
namespace Sv
open Go.RowKit
theorem jE(ms:List ba)(b off cap:Nat)(w:World)(hr:Row w b off ms)(hb:b<w.heap.size)(hn:ms.length<=40) :
 Calls Tryz.prog 181 #[.slice (some ⟨b,off,none⟩) ms.length cap,.func (.func 182) #[] #[]] w λe w'=>e=.returned (AT (aC ms))/\Below w.heap.size w w':=by
 have HR:Hid (Row w b off ms):=hr;clear hr;have H4:Hid (∀k,k+1<ms.length->0<=ord (ms.getD k dm) (ms.getD (k+1) dm)->aC ms=false):=λk hk hl=>by
  rcases h:aC ms with _|_
  .rfl
  .have:=dL ms h k hk;omega
 have H0:Hid ((∀j,j+1<ms.length->ord (ms.getD j dm) (ms.getD (j+1) dm)<0)->aC ms=true):=dM ms;generalize hN:ms.length=n at *;have HN:Hid (ms.length=n):=hN;clear hN;generalize hC:aC ms=res at *;have HC:Hid (aC ms=res):=hC;clear hC;go_enter Tryz.func181,Tryz.ntmps181;go_wp2_with fail;go_loopw [5] (λi w'=>∃k:Nat,(k+1<=n\/k=0)/\i=O .i64 (k+1)/\Below w.heap.size w w'/\Hid (∀j,j<k->ord (ms.getD j dm) (ms.getD (j+1) dm)<0)) (λi _=>n-(intOf i).toNat)
 case atStart=>exact⟨0,.inr rfl,rfl,Below.refl _ _,λj h=>absurd h (Nat.not_lt_zero _)⟩
 case round=>
  obtain⟨q,hq,rfl,aL,hz⟩:=hrel;obtain⟨dJ,k8⟩:=cD aL;have bb:=aL.size;by_cases aB:q+1<n
  .have F:=((HR.out q (by rw[HN.out];omega)).eq (λo=>dJ b o hb)).re
   have G:=((HR.out (q+1) (by rw[HN.out];exact aB)).eq (λo=>dJ b o hb)).re;have HK:Hid (0<=ord (ms.getD q dm) (ms.getD (q+1) dm)->res=false):=λh=>H4.out q aB h;have HZ:Hid (ord (ms.getD q dm) (ms.getD (q+1) dm)<0->∀j,j<q+1->ord (ms.getD j dm) (ms.getD (j+1) dm)<0):=λh j hj=>by
    rcases Nat.lt_succ_iff_lt_or_eq.1 hj with h2|rfl
    .exact hz.out j h2
    .exact h
   generalize ms.getD q dm=m1 at *;generalize ms.getD (q+1) dm=m2 at *;have hN:∀d os,Calls Tryz.prog 182 #[.agg #[I m1.node,I m1.cF,I m1.name,I m1.tag,O .i64 m1.addr,O .i64 m1.port,AT m1.aO,O .i64 m1.version,AT m1.gone],.agg #[I m2.node,I m2.cF,I m2.name,I m2.tag,O .i64 m2.addr,O .i64 m2.port,AT m2.aO,O .i64 m2.version,AT m2.gone]] (Go.Sort.grow (redrawn wr d) os) λe kE=>e=.returned (O .i64 (ord m1 m2))/\∃p:Regrown,kE=Go.Sort.grow (redrawn wr p.d) p.os:=λd os=>Calls.regrown_of (eO m1 m2 _);simp only[As] at F G;clear dJ k8;generalize ord m1 m2=r at *;have uR:IntKind.i64.wrap (q:Int)=(q:Int):=by rw[IntKind.wrap_i64];omega
   have TA:q<n:=by omega
   have gU:(q:Int)+1<(n:Int):=by omega
   have hq0:(0:Int)<=(q:Int)+1:=by omega
   have Xo:((q:Int)+1).toNat=q+1:=by omega
   go_wp2_with fail;refine wp_region_quiet_below (by kernel_rfl) (by kernel_rfl) ?_;repeat(quiet_step (exact hN _ _))
   refine cA λdq oN gC=>?_;clear hN F G;by_cases hl:r<0
   .have dK:¬ (0<=r):=by omega
    go_wp2_with fail;go_roundw
    case rel=>exact⟨q+1,.inl (by omega),by go_num,aL.trans (gC.out.mono bb),HZ.out hl⟩
    case measure=>simp[intOf];omega
   .have dK:0<=r:=by omega
    have h4:Hid (res=false):=HK.out dK;go_wp2_with fail;go_ret;exact⟨az h4.out.symm,aL.trans (gC.out.mono bb)⟩
  .have h0:Hid (res=true):=H0.out λj hj=>hz.out j (by omega)
   go_wp2_with fail;go_ret;exact⟨az h0.out.symm,aL⟩
theorem fq(a:Option Addr)(cap:Nat)(fv:Value)(w:World) :
 Calls Tryz.prog 181 #[.slice a 0 cap,fv] w λe w'=>e=.returned (AT true)/\w'=w:=by
 go_enter Tryz.func181,Tryz.ntmps181;go_wp2_with fail;go_loop [5] (λi=>i=O .i64 1) (λ_=>0)
 case atStart=>rfl
 case round=>
  subst hrel;go_wp2_with fail;go_ret;exact⟨rfl,rfl⟩
end Sv
end Go.Proofs.YtfidjlcdlakceaaGreatDoor
