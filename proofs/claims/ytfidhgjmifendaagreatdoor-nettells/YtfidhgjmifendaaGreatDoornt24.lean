import Derived.Test.YtfidhgjmifendaaGreatDoornt23
set_option maxHeartbeats 6400000
set_option maxRecDepth 100000
open Go.Value renaming slice→J,string→Y,bool→Ia,int→U
namespace Go.Proofs.YtfidhgjmifendaaGreatDoor
namespace Sv
open Go.RowKit
theorem RY{ms:List aT}{m:aT}{p:Nat}{f:Bool}(h:∀x∈ms,x.ok)(hm:m.ok):∀x∈RL.put ms m p f,x.ok:=λx hx=>by
 unfold RL.put at hx;rcases List.mem_append.1 hx with hx|hx
 .exact h x (List.mem_of_mem_take hx)
 .rcases List.mem_cons.1 hx with rfl|hx
  .exact hm
  .exact h x (List.mem_of_mem_drop hx)
def VS(ms:List aT)(p:Nat)(f:Bool)(s:aT):aT:={ s with version:=(et ms p f).version+1 }
def xi(ms:List aT)(p:Nat)(f:Bool)(s:aT):Int:=
 if(et ms p f).version+1<=1000000 then(if 40<(RL.put ms (VS ms p f s) p f).length then 2 else 0) else 3
end Sv
namespace Sv
open Go.RowKit
def zp(s:aT):aT:={ s with version:=1,gone:=false }
theorem VT(ms:List aT)(p:Nat)(f:Bool)(s:aT)(hv:0<=(et ms p f).version):(Az ms p f s).e=if(zp s).e=0 then(if(et ms p f).version+1<=1000000 then 0 else 3) else(zp s).e:=by
 have h:(within ((et ms p f).version+1) 1 1000000=true)↔(et ms p f).version+1<=1000000:=by simp[within];omega
 have h1:within (1:Int) 1 1000000=true:=by decide
 rw[RW,RW];show(if bb s.node=true then(if bb s.bu=true then(if bb s.name=true then(if lO s.tag=true then(if within s.addr 0 4294967295=true then(if within s.port 0 65535=true then(if within ((et ms p f).version+1) 1 1000000=true then(0:Int) else 3) else 3) else 3) else 1) else 1) else 1) else 1)=(if(if bb s.node=true then(if bb s.bu=true then(if bb s.name=true then(if lO s.tag=true then(if within s.addr 0 4294967295=true then(if within s.port 0 65535=true then(if within (1:Int) 1 1000000=true then(0:Int) else 3) else 3) else 3) else 1) else 1) else 1) else 1)=0 then(if(et ms p f).version+1<=1000000 then 0 else 3) else(if bb s.node=true then(if bb s.bu=true then(if bb s.name=true then(if lO s.tag=true then(if within s.addr 0 4294967295=true then(if within s.port 0 65535=true then(if within (1:Int) 1 1000000=true then(0:Int) else 3) else 3) else 3) else 1) else 1) else 1) else 1));rw[h1];by_cases h3:(et ms p f).version+1<=1000000
 .rw[h.2 h3]
  cases bb s.node<;>cases bb s.bu<;>cases bb s.name<;>cases lO s.tag<;>cases within s.addr 0 4294967295<;>cases within s.port 0 65535<;>simp[h3]
 .have h4:within ((et ms p f).version+1) 1 1000000=false:=by
   cases hw:within ((et ms p f).version+1) 1 1000000
   .rfl
   .exact absurd (h.1 hw) h3
  rw[h4];cases bb s.node<;>cases bb s.bu<;>cases bb s.name<;>cases lO s.tag<;>cases within s.addr 0 4294967295<;>cases within s.port 0 65535<;>simp[h3]
theorem RZ{ms:List aT}{p:Nat}{f:Bool}{m:aT}(hf:f=true)(hm:m.version=(et ms p f).version+1):bP m (ms.getD p dm)=true:=by
 rw[iS];have hv:m.version=(ms.getD p dm).version+1:=by rw[hm,et,if_pos hf]
 rw[if_neg (by omega)];exact decide_eq_true (by omega)
end Sv
namespace Sv
open Go.RowKit
theorem rq(a b:ByteArray)(ha:a.size<=maxLen)(hb:b.size<=maxLen)(W:World) :
 Calls Tryz.prog 34 #[J (some ⟨W.heap.size,0,none⟩) 2 2] (W.alloc (.cells #[Y a,Y b] 9)) λe w'=>e=.returned (Ia (bb a&&bb b))/\w'=W.alloc (.cells #[Y a,Y b] 9):=by
 have hg:=heap_alloc_new W (.cells #[Y a,Y b] 9);refine(ou [a,b] W.heap.size 2 _ (λj hj=>?_) (λj=>?_) (by simp)).mono ?_
 .rw[ae hg]
  have:j=0\/j=1:=by simp at hj;omega
  rcases this with rfl|rfl<;>rfl
 .match j with
  |0=>exact ha
  |1=>exact hb
  |_+2=>simp[List.getD]
 .rintro e w' ⟨rfl,rfl⟩
  exact⟨ba (by simp),rfl⟩
def pK(x:aT):aT:={ x with gone:=true }
def nR(ms:List aT)(p:Nat)(f:Bool)(node bu:ByteArray):Int:=
 if(bb node&&bb bu)=true then(if(f&&!(et ms p f).gone)=true then xi ms p f (pK (et ms p f)) else 5) else 1
def qF(ms:List aT)(p:Nat)(f:Bool):aT:=VS ms p f (pK (et ms p f))
theorem tq{ms:List aT}(h0:bj ms=0){p:Nat}{t:aT}(cv:At ms t p true) :
 aE ms [qF ms p true]=xi ms p true (pK (et ms p true))/\av ms [qF ms p true]=RL.put ms (qF ms p true) p true:=by
 have hz:=af h0;have hp:=(cv.is.1 rfl).1;have hf:et ms p true=ms.getD p dm:=if_pos rfl;have h1:At ms (qF ms p true) p true:=RL.yB ord dm keyed hz.2.1 hp (tp.2 (by rw[<- hf];exact⟨rfl,rfl⟩));have h2:av ms [qF ms p true]=RL.put ms (qF ms p true) p true:=(Hp h1 (λhf=>RZ hf rfl)).symm;refine⟨?_,h2⟩;have hv:=pB hz.2.2 cv;have he:(qF ms p true).e=if(zp (et ms p true)).e=0 then(if(et ms p true).version+1<=1000000 then 0 else 3) else(zp (et ms p true)).e:=VT ms p true (et ms p true) hv.1;have hx:(et ms p true).e=0:=by rw[hf];exact Mo hz.2.2 p hp
 have adg:(zp (et ms p true)).e=0:=by
  rw[RW] at hx ⊢
  revert hx
  show _->(if bb (et ms p true).node=true then(if bb (et ms p true).bu=true then(if bb (et ms p true).name=true then(if lO (et ms p true).tag=true then(if within (et ms p true).addr 0 4294967295=true then(if within (et ms p true).port 0 65535=true then(if within (1:Int) 1 1000000=true then(0:Int) else 3) else 3) else 3) else 1) else 1) else 1) else 1)=0;rw[show within (1:Int) 1 1000000=true by decide];cases bb (et ms p true).node<;>cases bb (et ms p true).bu<;>cases bb (et ms p true).name<;>cases lO (et ms p true).tag<;>cases within (et ms p true).addr 0 4294967295<;>cases within (et ms p true).port 0 65535<;>simp
 rw[if_pos adg] at he;unfold xi;by_cases h4:(et ms p true).version+1<=1000000
 .rw[if_pos h4] at he ⊢
  rw[ik h0 (by rw[xj];exact he),h2];rfl
 .rw[if_neg h4] at he ⊢
  rw[lH h0 (by rw[xj,he];decide),xj,he]
theorem Ee(ms:List aT)(v:Value)(node bu:ByteArray)(w:World)(hv:Sl w v ms)(h0:bj ms=0)(hs:node.size<=maxLen)(ht:bu.size<=maxLen)(p:Nat)(f:Bool)(cv:At ms ⟨node,bu,⟨#[]⟩,⟨#[]⟩,0,0,false,0,false⟩ p f) :
 Calls Tryz.prog 203 #[v,Y node,Y bu] w λe w'=>∃v',e=.returned (.tuple #[v',U .i64 (nR ms p f node bu)])/\Below w.heap.size w w'/\Hid ((nR ms p f node bu≠0->v'=J none 0 0)/\(nR ms p f node bu=0->Own w.heap.size w' v' (RL.put ms (qF ms p f) p f))):=by
 have he:(bj ms !=0)=false:=by simpa using h0
 have hz:=af h0;have HV:Hid (Sl w v ms):=hv;have HR:Hid (bn ms):=hz.2.1;have hlen:=hz.1;have pC:=pB hz.2.2 cv;have fS:Hid _:=cv;have HRP:Hid (f=true->∀W,Sl W v ms->Calls Tryz.prog 240 #[v,.agg #[Y (qF ms p f).node,Y (qF ms p f).bu,Y (qF ms p f).name,Y (qF ms p f).tag,U .i64 (qF ms p f).addr,U .i64 (qF ms p f).port,Ia (qF ms p f).aj,U .i64 (qF ms p f).version,Ia (qF ms p f).gone]] W λe w'=>∃v',e=.returned (.tuple #[v',U .i64 (xi ms p f (pK (et ms p f)))])/\Below W.heap.size W w' /\
  (xi ms p f (pK (et ms p f))≠0->v'=J none 0 0)/\(xi ms p f (pK (et ms p f))=0->Own W.heap.size w' v' (RL.put ms (qF ms p f) p f))):=λhf W hW=>by
  subst hf;have hp:=(cv.is.1 rfl).1;have hU:(qF ms p true).ok:=by
   have h:(et ms p true).ok:=by rw[et,if_pos rfl];exact cB (VR hv) p
   exact h
  have h:=rn ms v (qF ms p true) W hW hU;rw[(tq h0 cv).1,(tq h0 cv).2] at h;exact h
 have HD:Hid (nR ms p f node bu=if(bb node&&bb bu)=true then(if(f&&!(et ms p f).gone)=true then xi ms p f (pK (et ms p f)) else 5) else 1):=rfl;have HG:Hid (qF ms p f={ et ms p f with version:=(et ms p f).version+1,gone:=true }):=rfl;generalize nR ms p f node bu=de at *;generalize xi ms p f (pK (et ms p f))=se at *;generalize RL.put ms (qF ms p f) p f=pl at *;clear hv h0 hz cv;rcases hl:(bb node&&bb bu) with _|_
 .have HN:Hid (de=1):=(show de=1 by rw[HD.out,hl];rfl)
  go_enter Tryz.func203,Tryz.ntmps203;go_wp2_with (first|(go_at_call 99;refine(bo ms _ _ HV.out).mono ?_;rintro e w1 ⟨rfl,aB⟩)|(go_at_call 34;refine(rq _ _ hs ht _).mono ?_;rintro e w' ⟨rfl,rfl⟩;rw[hl]));go_ret2;exact⟨_,by rw[HN.out];rfl,aB.alloc aB.size _,⟨λ_=>rfl,λh=>by rw[HN.out] at h;cases h⟩⟩
 .have HN:Hid (de=if(f&&!(et ms p f).gone)=true then se else 5):=(show de=_ by rw[HD.out,hl,if_pos rfl])
  clear HD;go_enter Tryz.func203,Tryz.ntmps203;go_wp2_with (first|(go_at_call 99;refine(bo ms _ _ HV.out).mono ?_;rintro e w1 ⟨rfl,aB⟩)|(go_at_call 34;refine(rq _ _ hs ht _).mono ?_;rintro e w' ⟨rfl,rfl⟩;rw[hl]));have ru:=aB.alloc aB.size (.cells #[Y node,Y bu] 9);refine(nx ms _ node bu _ (HV.out.below ru) hlen HR.out).mono ?_;rintro e w2 ⟨p',f',rfl,aJ,qD⟩;obtain⟨rfl,rfl⟩:=ey fS.out qD;have bp:Hid _:=ru.trans (aJ.mono (by simp;have:=aB.size;omega));clear qD aB aJ ru;have gY:=bp.out.size;generalize hdr:qF ms p f=dr at *;generalize et ms p f=kn at *;obtain⟨k_node,k_idn,k_name,k_tag,k_addr,k_port,k_passing,k_version,k_gone⟩:=kn;simp only at pC;obtain⟨Aw,Av⟩:=pC;cases f
  .have Gk:Hid (de=5):=(show de=5 by rw[HN.out];rfl)
   go_wp2_with fail;go_ret2;exact⟨_,by rw[Gk.out];rfl,bp.out.alloc gY _,⟨λ_=>rfl,λh=>by rw[Gk.out] at h;cases h⟩⟩
  .cases k_gone
   .have HNS:Hid (de=se):=(show de=se by rw[HN.out];rfl)
    have HRQ:=HRP.out rfl;rw[HG.out] at HRQ;have adj:Hid _:=HRQ;clear HRQ HRP HG;have HBY:Hid (Below w.heap.size w (w2.alloc (.cells #[Y k_node,Y k_idn,Y k_name,Y k_tag,U .i64 k_addr,U .i64 k_port,Ia k_passing,U .i64 (k_version+1),Ia true] 46))):=bp.out.alloc gY _;go_wp2_with fail;refine(adj.out _ (HV.out.below HBY.out)).mono ?_;rintro e w3 ⟨v3,rfl,bV,pD,mN⟩;have Bf:Hid _:=pD;have cj:Hid _:=HBY.out.trans (bV.mono (by simp;omega));have sZ:Hid (se=0->Own w.heap.size w3 v3 pl):=λh=>(mN h).mono (by simp;omega);clear pD mN bV;go_wp2_with fail;go_ret2;exact⟨v3,by rw[HNS.out];rfl,cj.out,⟨λh=>Bf.out (by rw[<- HNS.out];exact h),λh=>sZ.out (by rw[<- HNS.out];exact h)⟩⟩
   .have Gk:Hid (de=5):=(show de=5 by rw[HN.out];rfl)
    go_wp2_with fail;go_ret2;exact⟨_,by rw[Gk.out];rfl,bp.out.alloc gY _,⟨λ_=>rfl,λh=>by rw[Gk.out] at h;cases h⟩⟩
end Sv
namespace Sv
open Go.RowKit
end Sv
end Go.Proofs.YtfidhgjmifendaaGreatDoor
