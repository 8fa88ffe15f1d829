import Derived.Test.YtfidhgjmifendaaGreatDoorng41
import Derived.Test.YtfidhgjmifendaaGreatDoorng42
import Derived.Test.YtfidhgjmifendaaGreatDoorng24
set_option maxHeartbeats 6400000
set_option maxRecDepth 100000
open Go.Value renaming slice→J,string→Y,bool→Ia,int→U
namespace Go.Proofs.YtfidhgjmifendaaGreatDoor
namespace Sv
open Go.RowKit
theorem rl(a b:ByteArray)(ha:a.size<=maxLen)(hb:b.size<=maxLen)(W:World) :
 Calls Tryz.prog 34 #[J (some ⟨W.heap.size,0,none⟩) 2 2] (W.alloc (.cells #[Y a,Y b] 9)) λe w'=>e=.returned (Ia (ba a&&ba b))/\w'=W.alloc (.cells #[Y a,Y b] 9):=by
 have hg:=heap_alloc_new W (.cells #[Y a,Y b] 9);refine(om [a,b] W.heap.size 2 _ (λj hj=>?_) (λj=>?_) (by simp)).mono ?_
 .rw[ae hg]
  have:j=0\/j=1:=by simp at hj;omega
  rcases this with rfl|rfl<;>rfl
 .match j with
  |0=>exact ha
  |1=>exact hb
  |_+2=>simp[List.getD]
 .rintro e w' ⟨rfl,rfl⟩
  exact⟨aL (by simp),rfl⟩
def pO(x:aW):aW:={ x with gone:=true }
def nM(ms:List aW)(p:Nat)(f:Bool)(node bq:ByteArray):Int:=
 if(ba node&&ba bq)=true then(if(f&&!(ev ms p f).gone)=true then xD ms p f (pO (ev ms p f)) else 5) else 1
def qN(ms:List aW)(p:Nat)(f:Bool):aW:=Wz ms p f (pO (ev ms p f))
theorem tP{ms:List aW}(h0:bj ms=0){p:Nat}{t:aW}(cH:At ms t p true) :
 aE ms [qN ms p true]=xD ms p true (pO (ev ms p true))/\av ms [qN ms p true]=RL.put ms (qN ms p true) p true:=by
 have hz:=af h0;have hp:=(cH.is.1 rfl).1;have hf:ev ms p true=ms.getD p dm:=if_pos rfl;have h1:At ms (qN ms p true) p true:=RL.yj ord dm keyed hz.2.1 hp (tO.2 (by rw[<- hf];exact⟨rfl,rfl⟩));have h2:av ms [qN ms p true]=RL.put ms (qN ms p true) p true:=(KP h1 (λhf=>Tb hf rfl)).symm;refine⟨?_,h2⟩;have hv:=pd hz.2.2 cH;have he:(qN ms p true).e=if(zF (ev ms p true)).e=0 then(if(ev ms p true).version+1<=1000000 then 0 else 3) else(zF (ev ms p true)).e:=WA ms p true (ev ms p true) hv.1;have hx:(ev ms p true).e=0:=by rw[hf];exact MI hz.2.2 p hp
 have aeq:(zF (ev ms p true)).e=0:=by
  rw[S8] at hx ⊢
  revert hx
  show _->(if ba (ev ms p true).node=true then(if ba (ev ms p true).bq=true then(if ba (ev ms p true).name=true then(if lE (ev ms p true).tag=true then(if within (ev ms p true).addr 0 4294967295=true then(if within (ev ms p true).port 0 65535=true then(if within (1:Int) 1 1000000=true then(0:Int) else 3) else 3) else 3) else 1) else 1) else 1) else 1)=0;rw[show within (1:Int) 1 1000000=true by decide];cases ba (ev ms p true).node<;>cases ba (ev ms p true).bq<;>cases ba (ev ms p true).name<;>cases lE (ev ms p true).tag<;>cases within (ev ms p true).addr 0 4294967295<;>cases within (ev ms p true).port 0 65535<;>simp
 rw[if_pos aeq] at he;unfold xD;by_cases h4:(ev ms p true).version+1<=1000000
 .rw[if_pos h4] at he ⊢
  rw[il h0 (by rw[xq];exact he),h2];rfl
 .rw[if_neg h4] at he ⊢
  rw[lJ h0 (by rw[xq,he];decide),xq,he]
theorem E8(ms:List aW)(v:Value)(node bq:ByteArray)(w:World)(hv:Sl w v ms)(h0:bj ms=0)(hs:node.size<=maxLen)(ht:bq.size<=maxLen)(p:Nat)(f:Bool)(cH:At ms ⟨node,bq,⟨#[]⟩,⟨#[]⟩,0,0,false,0,false⟩ p f) :
 Calls Tryz.prog 203 #[v,Y node,Y bq] w λe w'=>∃v',e=.returned (.tuple #[v',U .i64 (nM ms p f node bq)])/\Below w.heap.size w w'/\Hid ((nM ms p f node bq≠0->v'=J none 0 0)/\(nM ms p f node bq=0->Own w.heap.size w' v' (RL.put ms (qN ms p f) p f))):=by
 have he:(bj ms !=0)=false:=by simpa using h0
 have hz:=af h0;have HV:Hid (Sl w v ms):=hv;have HR:Hid (bl ms):=hz.2.1;have hlen:=hz.1;have yV:=pd hz.2.2 cH;have fb:Hid _:=cH;have HRP:Hid (f=true->∀W,Sl W v ms->Calls Tryz.prog 240 #[v,.agg #[Y (qN ms p f).node,Y (qN ms p f).bq,Y (qN ms p f).name,Y (qN ms p f).tag,U .i64 (qN ms p f).addr,U .i64 (qN ms p f).port,Ia (qN ms p f).aj,U .i64 (qN ms p f).version,Ia (qN ms p f).gone]] W λe w'=>∃v',e=.returned (.tuple #[v',U .i64 (xD ms p f (pO (ev ms p f)))])/\Below W.heap.size W w' /\
  (xD ms p f (pO (ev ms p f))≠0->v'=J none 0 0)/\(xD ms p f (pO (ev ms p f))=0->Own W.heap.size w' v' (RL.put ms (qN ms p f) p f))):=λhf W hW=>by
  subst hf;have hp:=(cH.is.1 rfl).1;have hY:(qN ms p true).ok:=by
   have h:(ev ms p true).ok:=by rw[ev,if_pos rfl];exact cy (VI hv) p
   exact h
  have h:=rj ms v (qN ms p true) W hW hY;rw[(tP h0 cH).1,(tP h0 cH).2] at h;exact h
 have HD:Hid (nM ms p f node bq=if(ba node&&ba bq)=true then(if(f&&!(ev ms p f).gone)=true then xD ms p f (pO (ev ms p f)) else 5) else 1):=rfl;have HG:Hid (qN ms p f={ ev ms p f with version:=(ev ms p f).version+1,gone:=true }):=rfl;generalize nM ms p f node bq=de at *;generalize xD ms p f (pO (ev ms p f))=se at *;generalize RL.put ms (qN ms p f) p f=pl at *;clear hv h0 hz cH;rcases hl:(ba node&&ba bq) with _|_
 .have HN:Hid (de=1):=(show de=1 by rw[HD.out,hl];rfl)
  go_enter Tryz.func203,Tryz.ntmps203;go_wp2_with (first|(go_at_call 99;refine(bo ms _ _ HV.out).mono ?_;rintro e w1 ⟨rfl,aB⟩)|(go_at_call 34;refine(rl _ _ hs ht _).mono ?_;rintro e w' ⟨rfl,rfl⟩;rw[hl]));go_ret2;exact⟨_,by rw[HN.out];rfl,aB.alloc aB.size _,⟨λ_=>rfl,λh=>by rw[HN.out] at h;cases h⟩⟩
 .have HN:Hid (de=if(f&&!(ev ms p f).gone)=true then se else 5):=(show de=_ by rw[HD.out,hl,if_pos rfl])
  clear HD;go_enter Tryz.func203,Tryz.ntmps203;go_wp2_with (first|(go_at_call 99;refine(bo ms _ _ HV.out).mono ?_;rintro e w1 ⟨rfl,aB⟩)|(go_at_call 34;refine(rl _ _ hs ht _).mono ?_;rintro e w' ⟨rfl,rfl⟩;rw[hl]));have rm:=aB.alloc aB.size (.cells #[Y node,Y bq] 9);refine(nq ms _ node bq _ (HV.out.below rm) hlen HR.out).mono ?_;rintro e w2 ⟨p',f',rfl,aI,qv⟩;obtain⟨rfl,rfl⟩:=ed fb.out qv;have bp:Hid _:=rm.trans (aI.mono (by simp;have:=aB.size;omega));clear qv aB aI rm;have iU:=bp.out.size;generalize hdr:qN ms p f=dr at *;generalize ev ms p f=kn at *;obtain⟨k_node,k_idn,k_name,k_tag,k_addr,k_port,k_passing,k_version,k_gone⟩:=kn;simp only at yV;obtain⟨Aq,Ap⟩:=yV;cases f
  .have Gv:Hid (de=5):=(show de=5 by rw[HN.out];rfl)
   go_wp2_with fail;go_ret2;exact⟨_,by rw[Gv.out];rfl,bp.out.alloc iU _,⟨λ_=>rfl,λh=>by rw[Gv.out] at h;cases h⟩⟩
  .cases k_gone
   .have HNS:Hid (de=se):=(show de=se by rw[HN.out];rfl)
    have HRQ:=HRP.out rfl;rw[HG.out] at HRQ;have aet:Hid _:=HRQ;clear HRQ HRP HG;have HBY:Hid (Below w.heap.size w (w2.alloc (.cells #[Y k_node,Y k_idn,Y k_name,Y k_tag,U .i64 k_addr,U .i64 k_port,Ia k_passing,U .i64 (k_version+1),Ia true] 46))):=bp.out.alloc iU _;go_wp2_with fail;refine(aet.out _ (HV.out.below HBY.out)).mono ?_;rintro e w3 ⟨v3,rfl,bU,pj,mK⟩;have Bl:Hid _:=pj;have cF:Hid _:=HBY.out.trans (bU.mono (by simp;omega));have tg:Hid (se=0->Own w.heap.size w3 v3 pl):=λh=>(mK h).mono (by simp;omega);clear pj mK bU;go_wp2_with fail;go_ret2;exact⟨v3,by rw[HNS.out];rfl,cF.out,⟨λh=>Bl.out (by rw[<- HNS.out];exact h),λh=>tg.out (by rw[<- HNS.out];exact h)⟩⟩
   .have Gv:Hid (de=5):=(show de=5 by rw[HN.out];rfl)
    go_wp2_with fail;go_ret2;exact⟨_,by rw[Gv.out];rfl,bp.out.alloc iU _,⟨λ_=>rfl,λh=>by rw[Gv.out] at h;cases h⟩⟩
end Sv
namespace Sv
open Go.RowKit
end Sv
end Go.Proofs.YtfidhgjmifendaaGreatDoor
namespace Go.Proofs.YtfidhgjmifendaaGreatDoor
open Go.RowKit
namespace Sv
end Sv
namespace Gw
end Gw
abbrev T4(s:Sv.aW):Value:=.agg #[Y s.node,Y s.bq,Y s.name,Y s.tag,U .i64 s.addr,U .i64 s.port,Ia s.aj,U .i64 s.version,Ia s.gone]
theorem Tc{ms:List Sv.aW}(h:∀x∈ms,x.ok)(p:Nat)(f:Bool):(Sv.qN ms p f).ok:=by
 have hd:(Sv.dm).ok:=by simp[Sv.dm,Sv.aW.ok]
 have hg:(Sv.ev ms p f).ok:=by
  unfold Sv.ev;split
  .exact Sv.cy h p
  .exact hd
 exact hg
end Go.Proofs.YtfidhgjmifendaaGreatDoor
