import Derived.Test.YtfidhgjmifendaaGreatDoorns40
set_option maxHeartbeats 6400000
set_option maxRecDepth 100000
open Go.Value renaming slice→J,string→Y,bool→Ia,int→U
namespace Go.Proofs.YtfidhgjmifendaaGreatDoor
namespace Sv
open Go.RowKit
theorem Tg{ms:List aY}{m:aY}{p:Nat}{f:Bool}(h:∀x∈ms,x.ok)(hm:m.ok):∀x∈RL.put ms m p f,x.ok:=λx hx=>by
 unfold RL.put at hx;rcases List.mem_append.1 hx with hx|hx
 .exact h x (List.mem_of_mem_take hx)
 .rcases List.mem_cons.1 hx with rfl|hx
  .exact hm
  .exact h x (List.mem_of_mem_drop hx)
def WY(ms:List aY)(p:Nat)(f:Bool)(s:aY):aY:={ s with version:=(eC ms p f).version+1 }
def yh(ms:List aY)(p:Nat)(f:Bool)(s:aY):Int:=
 if(eC ms p f).version+1<=1000000 then(if 40<(RL.put ms (WY ms p f s) p f).length then 2 else 0) else 3
end Sv
namespace Sv
open Go.RowKit
def Ab(s:aY):aY:={ s with version:=1,gone:=false }
theorem WZ(ms:List aY)(p:Nat)(f:Bool)(s:aY)(hv:0<=(eC ms p f).version):(A6 ms p f s).e=if(Ab s).e=0 then(if(eC ms p f).version+1<=1000000 then 0 else 3) else(Ab s).e:=by
 have h:(within ((eC ms p f).version+1) 1 1000000=true)↔(eC ms p f).version+1<=1000000:=by simp[within];omega
 have h1:within (1:Int) 1 1000000=true:=by decide
 rw[Tf,Tf];show(if bc s.node=true then(if bc s.bP=true then(if bc s.name=true then(if lU s.tag=true then(if within s.addr 0 4294967295=true then(if within s.port 0 65535=true then(if within ((eC ms p f).version+1) 1 1000000=true then(0:Int) else 3) else 3) else 3) else 1) else 1) else 1) else 1)=(if(if bc s.node=true then(if bc s.bP=true then(if bc s.name=true then(if lU s.tag=true then(if within s.addr 0 4294967295=true then(if within s.port 0 65535=true then(if within (1:Int) 1 1000000=true then(0:Int) else 3) else 3) else 3) else 1) else 1) else 1) else 1)=0 then(if(eC ms p f).version+1<=1000000 then 0 else 3) else(if bc s.node=true then(if bc s.bP=true then(if bc s.name=true then(if lU s.tag=true then(if within s.addr 0 4294967295=true then(if within s.port 0 65535=true then(if within (1:Int) 1 1000000=true then(0:Int) else 3) else 3) else 3) else 1) else 1) else 1) else 1));rw[h1];by_cases h3:(eC ms p f).version+1<=1000000
 .rw[h.2 h3]
  cases bc s.node<;>cases bc s.bP<;>cases bc s.name<;>cases lU s.tag<;>cases within s.addr 0 4294967295<;>cases within s.port 0 65535<;>simp[h3]
 .have h4:within ((eC ms p f).version+1) 1 1000000=false:=by
   cases hw:within ((eC ms p f).version+1) 1 1000000
   .rfl
   .exact absurd (h.1 hw) h3
  rw[h4];cases bc s.node<;>cases bc s.bP<;>cases bc s.name<;>cases lU s.tag<;>cases within s.addr 0 4294967295<;>cases within s.port 0 65535<;>simp[h3]
theorem Th{ms:List aY}{p:Nat}{f:Bool}{m:aY}(hf:f=true)(hm:m.version=(eC ms p f).version+1):bT m (ms.getD p dm)=true:=by
 rw[jj];have hv:m.version=(ms.getD p dm).version+1:=by rw[hm,eC,if_pos hf]
 rw[if_neg (by omega)];exact decide_eq_true (by omega)
end Sv
namespace Sv
open Go.RowKit
theorem rT(a b:ByteArray)(ha:a.size<=maxLen)(hb:b.size<=maxLen)(W:World) :
 Calls Tryz.prog 34 #[J (some ⟨W.heap.size,0,none⟩) 2 2] (W.alloc (.cells #[Y a,Y b] 9)) λe w'=>e=.returned (Ia (bc a&&bc b))/\w'=W.alloc (.cells #[Y a,Y b] 9):=by
 have hg:=heap_alloc_new W (.cells #[Y a,Y b] 9);refine(oO [a,b] W.heap.size 2 _ (λj hj=>?_) (λj=>?_) (by simp)).mono ?_
 .rw[ae hg]
  have:j=0\/j=1:=by simp at hj;omega
  rcases this with rfl|rfl<;>rfl
 .match j with
  |0=>exact ha
  |1=>exact hb
  |_+2=>simp[List.getD]
 .rintro e w' ⟨rfl,rfl⟩
  exact⟨aW (by simp),rfl⟩
def qv(x:aY):aY:={ x with gone:=true }
def ov(ms:List aY)(p:Nat)(f:Bool)(node bP:ByteArray):Int:=
 if(bc node&&bc bP)=true then(if(f&&!(eC ms p f).gone)=true then yh ms p f (qv (eC ms p f)) else 5) else 1
def rC(ms:List aY)(p:Nat)(f:Bool):aY:=WY ms p f (qv (eC ms p f))
theorem uu{ms:List aY}(h0:bl ms=0){p:Nat}{t:aY}(cH:At ms t p true) :
 aE ms [rC ms p true]=yh ms p true (qv (eC ms p true))/\av ms [rC ms p true]=RL.put ms (rC ms p true) p true:=by
 have hz:=af h0;have hp:=(cH.is.1 rfl).1;have hf:eC ms p true=ms.getD p dm:=if_pos rfl;have h1:At ms (rC ms p true) p true:=RL.G8 ord dm keyed hz.2.1 hp (K8.2 (by rw[<- hf];exact⟨rfl,rfl⟩));have h2:av ms [rC ms p true]=RL.put ms (rC ms p true) p true:=(K9 h1 (λhf=>Th hf rfl)).symm;refine⟨?_,h2⟩;have hv:=pU hz.2.2 cH;have he:(rC ms p true).e=if(Ab (eC ms p true)).e=0 then(if(eC ms p true).version+1<=1000000 then 0 else 3) else(Ab (eC ms p true)).e:=WZ ms p true (eC ms p true) hv.1;have hx:(eC ms p true).e=0:=by rw[hf];exact MO hz.2.2 p hp
 have ae6:(Ab (eC ms p true)).e=0:=by
  rw[Tf] at hx ⊢
  revert hx
  show _->(if bc (eC ms p true).node=true then(if bc (eC ms p true).bP=true then(if bc (eC ms p true).name=true then(if lU (eC ms p true).tag=true then(if within (eC ms p true).addr 0 4294967295=true then(if within (eC ms p true).port 0 65535=true then(if within (1:Int) 1 1000000=true then(0:Int) else 3) else 3) else 3) else 1) else 1) else 1) else 1)=0;rw[show within (1:Int) 1 1000000=true by decide];cases bc (eC ms p true).node<;>cases bc (eC ms p true).bP<;>cases bc (eC ms p true).name<;>cases lU (eC ms p true).tag<;>cases within (eC ms p true).addr 0 4294967295<;>cases within (eC ms p true).port 0 65535<;>simp
 rw[if_pos ae6] at he;unfold yh;by_cases h4:(eC ms p true).version+1<=1000000
 .rw[if_pos h4] at he ⊢
  rw[iF h0 (by rw[xI];exact he),h2];rfl
 .rw[if_neg h4] at he ⊢
  rw[lV h0 (by rw[xI,he];decide),xI,he]
theorem Fw(ms:List aY)(v:Value)(node bP:ByteArray)(w:World)(hv:Sl w v ms)(h0:bl ms=0)(hs:node.size<=maxLen)(ht:bP.size<=maxLen)(p:Nat)(f:Bool)(cH:At ms ⟨node,bP,⟨#[]⟩,⟨#[]⟩,0,0,false,0,false⟩ p f) :
 Calls Tryz.prog 203 #[v,Y node,Y bP] w λe w'=>∃v',e=.returned (.tuple #[v',U .i64 (ov ms p f node bP)])/\Below w.heap.size w w'/\Hid ((ov ms p f node bP≠0->v'=J none 0 0)/\(ov ms p f node bP=0->Own w.heap.size w' v' (RL.put ms (rC ms p f) p f))):=by
 have he:(bl ms !=0)=false:=by simpa using h0
 have hz:=af h0;have HV:Hid (Sl w v ms):=hv;have HR:Hid (bp ms):=hz.2.1;have hlen:=hz.1;have zC:=pU hz.2.2 cH;have gj:Hid _:=cH;have Xa:Hid (f=true->∀W,Sl W v ms->Calls Tryz.prog 240 #[v,.agg #[Y (rC ms p f).node,Y (rC ms p f).bP,Y (rC ms p f).name,Y (rC ms p f).tag,U .i64 (rC ms p f).addr,U .i64 (rC ms p f).port,Ia (rC ms p f).an,U .i64 (rC ms p f).version,Ia (rC ms p f).gone]] W λe w'=>∃v',e=.returned (.tuple #[v',U .i64 (yh ms p f (qv (eC ms p f)))])/\Below W.heap.size W w' /\
  (yh ms p f (qv (eC ms p f))≠0->v'=J none 0 0)/\(yh ms p f (qv (eC ms p f))=0->Own W.heap.size w' v' (RL.put ms (rC ms p f) p f))):=λhf W hW=>by
  subst hf;have hp:=(cH.is.1 rfl).1;have gR:(rC ms p true).ok:=by
   have h:(eC ms p true).ok:=by rw[eC,if_pos rfl];exact cy (WV hv) p
   exact h
  have h:=rS ms v (rC ms p true) W hW gR;rw[(uu h0 cH).1,(uu h0 cH).2] at h;exact h
 have HD:Hid (ov ms p f node bP=if(bc node&&bc bP)=true then(if(f&&!(eC ms p f).gone)=true then yh ms p f (qv (eC ms p f)) else 5) else 1):=rfl;have HG:Hid (rC ms p f={ eC ms p f with version:=(eC ms p f).version+1,gone:=true }):=rfl;generalize ov ms p f node bP=de at *;generalize yh ms p f (qv (eC ms p f))=se at *;generalize RL.put ms (rC ms p f) p f=pl at *;clear hv h0 hz cH;rcases hl:(bc node&&bc bP) with _|_
 .have HN:Hid (de=1):=(show de=1 by rw[HD.out,hl];rfl)
  go_enter Tryz.func203,Tryz.ntmps203;go_wp2_with (first|(go_at_call 99;refine(bq ms _ _ HV.out).mono ?_;rintro e w1 ⟨rfl,aB⟩)|(go_at_call 34;refine(rT _ _ hs ht _).mono ?_;rintro e w' ⟨rfl,rfl⟩;rw[hl]));go_ret2;exact⟨_,by rw[HN.out];rfl,aB.alloc aB.size _,⟨λ_=>rfl,λh=>by rw[HN.out] at h;cases h⟩⟩
 .have HN:Hid (de=if(f&&!(eC ms p f).gone)=true then se else 5):=(show de=_ by rw[HD.out,hl,if_pos rfl])
  clear HD;go_enter Tryz.func203,Tryz.ntmps203;go_wp2_with (first|(go_at_call 99;refine(bq ms _ _ HV.out).mono ?_;rintro e w1 ⟨rfl,aB⟩)|(go_at_call 34;refine(rT _ _ hs ht _).mono ?_;rintro e w' ⟨rfl,rfl⟩;rw[hl]));have rU:=aB.alloc aB.size (.cells #[Y node,Y bP] 9);refine(nM ms _ node bP _ (HV.out.below rU) hlen HR.out).mono ?_;rintro e w2 ⟨p',f',rfl,aK,qY⟩;obtain⟨rfl,rfl⟩:=eN gj.out qY;have bu:Hid _:=rU.trans (aK.mono (by simp;have:=aB.size;omega));clear qY aB aK rU;have iv:=bu.out.size;generalize hdr:rC ms p f=dr at *;generalize eC ms p f=kn at *;obtain⟨k_node,k_idn,k_name,k_tag,k_addr,k_port,k_passing,k_version,k_gone⟩:=kn;simp only at zC;obtain⟨AX,AW⟩:=zC;cases f
  .have Cp:Hid (de=5):=(show de=5 by rw[HN.out];rfl)
   go_wp2_with fail;go_ret2;exact⟨_,by rw[Cp.out];rfl,bu.out.alloc iv _,⟨λ_=>rfl,λh=>by rw[Cp.out] at h;cases h⟩⟩
  .cases k_gone
   .have HNS:Hid (de=se):=(show de=se by rw[HN.out];rfl)
    have HRQ:=Xa.out rfl;rw[HG.out] at HRQ;have ae9:Hid _:=HRQ;clear HRQ Xa HG;have HBY:Hid (Below w.heap.size w (w2.alloc (.cells #[Y k_node,Y k_idn,Y k_name,Y k_tag,U .i64 k_addr,U .i64 k_port,Ia k_passing,U .i64 (k_version+1),Ia true] 46))):=bu.out.alloc iv _;go_wp2_with fail;refine(ae9.out _ (HV.out.below HBY.out)).mono ?_;rintro e w3 ⟨v3,rfl,bX,pV,mU⟩;have BA:Hid _:=pV;have cJ:Hid _:=HBY.out.trans (bX.mono (by simp;omega));have tv:Hid (se=0->Own w.heap.size w3 v3 pl):=λh=>(mU h).mono (by simp;omega);clear pV mU bX;go_wp2_with fail;go_ret2;exact⟨v3,by rw[HNS.out];rfl,cJ.out,⟨λh=>BA.out (by rw[<- HNS.out];exact h),λh=>tv.out (by rw[<- HNS.out];exact h)⟩⟩
   .have Cp:Hid (de=5):=(show de=5 by rw[HN.out];rfl)
    go_wp2_with fail;go_ret2;exact⟨_,by rw[Cp.out];rfl,bu.out.alloc iv _,⟨λ_=>rfl,λh=>by rw[Cp.out] at h;cases h⟩⟩
end Sv
namespace Sv
open Go.RowKit
end Sv
end Go.Proofs.YtfidhgjmifendaaGreatDoor
