import Derived.Test.YtlpdllcedgnaaaaGreatDoorRo
import Derived.Laws.FloatBits
set_option linter.all false
namespace Go.Proofs.YtlpdllcedgnaaaaGreatDoor
set_option maxRecDepth 100000
set_option maxHeartbeats 0
section
open Go Go.Proofs Go.Maps Go.RowKit FM Tryz
attribute [local go_sem] Ao Ai Am Dq Dp Br Ah Bq
def SDef (h:HP) (j:Nat) (q:OB) (u:List Nat) (k:KK) (d:DD) (h1:HP) (y:Bool):Prop:=(unB u k=true/\y=Mk q.x (unD u k) d/\h1=h)∨(unB u k=false/\DefP h j q k d h1 y)
theorem Zbe (u:List Nat) (k:KK):FD (unD u k):=by
 unfold unD
 split
 ·exact⟨show 0<2^64 by decide,show 0<2^64 by decide,show 0<2^64 by decide⟩
 ·unfold FD Al Bh;decide
theorem sdef_h (h:HP) (j:Nat) (q:OB) (u:List Nat) (k:KK) (d:DD) (w:World) (H:h.Is w) (hl:h.l.length<=65536) (hj:h.l[j]? =some q) (ht:q.ot=81) (U:Un h q.ov u w) (hu:UOk u) (hT:Tabs w) (hg:goodK k=true) (hFn:FD (getD q.T k)) (hFd:FD d) (hlast:q.T.last<4000000):Calls prog 214 #[.agg #[], .pointer (some ⟨h.b,0,none⟩), .int .i64 ((j:Int)+1),k.agg,d.agg] w fun e w'=> ∃(h1:HP) (y:Bool),e= .returned (.tuple #[.bool y, .nilIface])/\SDef h j q u k d h1 y/\h.To h1 w w':=by
 rcases hub:unB u k with _|_
 ·have SS:=Ab H.start
  have HU:=fun X (hX:h.To h w X)=>Zbd h j q u k X hX.is hl hj ht (U.to hX) hu (hX.tabs H hT) hg
  simp only[hub] at HU
  have HFU:=Zbe u k
  have HD:=fun X (hX:h.To h w X)=>Ru h j q k d X hX.is hl hj (hX.tabs H hT) (Kj hg) hg hFn hFd hlast
  simp only[Ec,Es] at HU HD ⊢
  generalize unD u k=UD at *
  go_enter func214,ntmps214
  go_wp2_with (first|go_skip|((with_reducible show wpList ..);first|((refine bxE (by rfl) rfl rfl (Aa SS) ?_);intro X0 B0 S0;replace SS:=Ab S0;clear S0;simp only[nn])|(refine zB 40 (k.cs) (by rfl) rfl rfl rfl SS ?_;clear SS;intro Xa Ba SS;simp only[nn])|(refine zB 43 (d.cs) (by rfl) rfl rfl rfl SS ?_;clear SS;intro Xb Bb SS;simp only[nn])|(refine zL (k.cs) 40 2 2 rwK szK (by rfl) rfl rfl SS rfl rfl rfl ?_;simp only[nn])|(refine rd rfl (faM rfl rfl ((Aa SS).emp 1 rfl)) ?_)|(refine rd rfl (ldO rfl rfl) ?_)|(refine rd rfl (ldM rfl rfl) ?_)))
  refine(HU _ (HP.To.end H (Aa SS) rfl)).mono ?_
  rintro _ Y1 ⟨rfl,hb1⟩
  replace SS:=Ab ((Aa SS).on hb1)
  clear hb1
  go_wp2_with (first|go_skip|((with_reducible show wpList ..);first|(refine zA 43 (Al.cs) (by rfl) rfl SS ?_;clear SS;intro Xc Bc SS;simp only[nn])|(refine zS (UD.cs) 4 43 (by rfl) rfl rfl rfl rfl (Ea _) szD SS rfl ?_;clear SS;intro Xd SS;simp only[nn])|(refine zL (k.cs) 40 2 2 rwK szK (by rfl) rfl rfl SS rfl rfl rfl ?_;simp only[nn])|(refine zL (d.cs) 43 18 3 rwD szD (by rfl) rfl rfl SS rfl rfl rfl ?_;simp only[nn])|(refine rd rfl (faM rfl rfl ((Aa SS).emp 1 rfl)) ?_)|(refine rd rfl (ldO rfl rfl) ?_)|(refine rd rfl (ldM rfl rfl) ?_)))
  refine(HD _ (HP.To.end H (Aa SS) rfl)).mono ?_
  rintro _ Y2 ⟨h1,y,rfl,hP,T1⟩
  replace SS:=Ab ((Aa SS).heap 0 rfl T1)
  have HP_:=Ab hP
  clear hP
  have hb1:h1.b=h.b:=T1.hb
  clear T1
  go_wp2
  go_ret2
  exact⟨h1,y,rfl, .inr ⟨hub,Aa HP_⟩,HP.To.end H (Aa SS) hb1⟩
 ·have SS:=Ab H.start
  have HU:=fun X (hX:h.To h w X)=>Zbd h j q u k X hX.is hl hj ht (U.to hX) hu (hX.tabs H hT) hg
  simp only[hub] at HU
  have HFU:=Zbe u k
  have HE:=fun X (hX:h.To h w X)=>ord_ext h j q X hX.is hl hj
  have HA:=fun X (hX:h.To h w X)=>Yl q.x (unD u k) d HFU hFd X (hX.tabs H hT).1
  have hR:SDef h j q u k d h (Mk q.x (unD u k) d):= .inl ⟨hub,rfl,rfl⟩
  have HR:=Ab hR
  clear hR
  simp only[Ec,Es] at HU HA ⊢
  generalize Mk q.x (unD u k) d=AB at *
  generalize Di q.x (unD u k) d=AD at *
  generalize Jd (unD u k) d=AE at *
  generalize unD u k=UD at *
  go_enter func214,ntmps214
  go_wp2_with (first|go_skip|((with_reducible show wpList ..);first|((refine bxE (by rfl) rfl rfl (Aa SS) ?_);intro X0 B0 S0;replace SS:=Ab S0;clear S0;simp only[nn])|(refine zB 40 (k.cs) (by rfl) rfl rfl rfl SS ?_;clear SS;intro Xa Ba SS;simp only[nn])|(refine zB 43 (d.cs) (by rfl) rfl rfl rfl SS ?_;clear SS;intro Xb Bb SS;simp only[nn])|(refine zL (k.cs) 40 2 2 rwK szK (by rfl) rfl rfl SS rfl rfl rfl ?_;simp only[nn])|(refine rd rfl (faM rfl rfl ((Aa SS).emp 1 rfl)) ?_)|(refine rd rfl (ldO rfl rfl) ?_)|(refine rd rfl (ldM rfl rfl) ?_)))
  refine(HU _ (HP.To.end H (Aa SS) rfl)).mono ?_
  rintro _ Y1 ⟨rfl,hb1⟩
  replace SS:=Ab ((Aa SS).on hb1)
  clear hb1
  go_wp2_with (first|go_skip|((with_reducible show wpList ..);first|(refine zA 43 (Al.cs) (by rfl) rfl SS ?_;clear SS;intro Xc Bc SS;simp only[nn])|(refine zS (UD.cs) 4 43 (by rfl) rfl rfl rfl rfl (Ea _) szD SS rfl ?_;clear SS;intro Xd SS;simp only[nn])|(refine rd rfl (faM rfl rfl ((Aa SS).emp 1 rfl)) ?_)|(refine rd rfl (ldO rfl rfl) ?_)|(refine rd rfl (ldM rfl rfl) ?_)))
  refine(HE _ (HP.To.end H (Aa SS) rfl)).mono ?_
  rintro _ Y2 ⟨rfl,hb2⟩
  replace SS:=Ab ((Aa SS).on hb2)
  clear hb2
  go_wp2_with (first|go_skip|((with_reducible show wpList ..);first|(refine zL (UD.cs) 43 18 4 rwD szD (by rfl) rfl rfl SS rfl rfl rfl ?_;simp only[nn])|(refine zL (d.cs) 43 18 3 rwD szD (by rfl) rfl rfl SS rfl rfl rfl ?_;simp only[nn])))
  refine(HA _ (HP.To.end H (Aa SS) rfl)).mono ?_
  rintro _ Y3 ⟨rfl,hb3⟩
  replace SS:=Ab ((Aa SS).on hb3)
  clear hb3
  go_wp2_with (first|go_skip|((with_reducible show wpList ..);first|(refine zA 43 (Al.cs) (by rfl) rfl SS ?_;clear SS;intro Xe Be SS;simp only[nn])|(refine zS (AD.cs) 5 43 (by rfl) rfl rfl rfl rfl (Ea _) szD SS rfl ?_;clear SS;intro Xg SS;simp only[nn])))
  go_ret2
  exact⟨h,AB,rfl,Aa HR,HP.To.end H (Aa SS) rfl⟩
def Kc (n:Nat):List KK:=(List.range n).map Gc
theorem Zdn (n:Nat):Kc (n+1)=Kc n++ [Gc n]:=by
 unfold Kc
 rw[List.range_succ,List.map_append]
 rfl
theorem Oq (n:Nat):(Kc n).length=n:=by simp[Kc]
theorem infK:(prog.info? 40).map (fun i=>(i.zero,i.size,i.bytes))=some (some Ey.agg,2,24):=by kernel_rfl
theorem ZbL {o:Oper} {a:Act} {w:World} {x:Operand} {n:Nat} (ho:o.op= .convert 3 61 x) (hx:a.eval x= .int .i64 (n:Nat)) (hn:n<=4294967295):(execOp a.eval o).run prog w= .ok (.value (.int .u32 (n:Nat))) w:=by
 have e:IntKind.u32.wrap (n:Int)=(n:Int):=by rw[IntKind.wrap_u32];omega
 unfold execOp
 simp only[ho,hx]
 simp[go_sem,convert,e]
theorem flatK_sn (l:List KK) (k:KK):Dg l++k.cs=Dg (l++ [k]):=by simp[Dg,KK.cs]
theorem ex_addN {o:Oper} {a:Act} {w:World} {x y:Operand} {n m:Nat} (ho:o.op= .binOp .add 3 x y 3) (hx:a.eval x= .int .i64 (n:Nat)) (hc:a.eval y= .int .i64 (m:Nat)) (h:n+m<=100000):(execOp a.eval o).run prog w= .ok (.value (.int .i64 ((n+m:Nat):Int))) w:=by
 have e:IntKind.i64.wrap ((n:Int)+(m:Int))=((n+m:Nat):Int):=by rw[IntKind.wrap_i64];omega
 unfold execOp
 simp only[ho,hx,hc]
 simp[go_sem,e]
theorem ZbY {w X Y:World} {o:Ob} {v vr:Value} {m k:Nat} {xs ys:List Value} (S:Sy w X [] [o,Dm w.heap.size 40 2 vr m xs,Dm w.heap.size 40 2 v k ys]) (hg:X.grownBy Y v.ownBlock):Below w.heap.size w Y:=by
 have h1:=S.fr.below
 have h3:World.ownsRow X w.heap.size 40 2 v k ys:=S.get 2 rfl
 refine⟨hg.os.trans h1.os,hg.tape.trans h1.tape,hg.output.trans h1.output,Nat.le_trans h1.size hg.size,fun b hb=> ?_⟩
 rw[hg.block b (Nat.lt_of_lt_of_le hb h1.size) (fun e=> ?_)]
 ·exact h1.block b hb
 ·have:=(World.ownsRow.lt h3 b e.symm).1
  omega
theorem skeys_h (h:HP) (j:Nat) (q:OB) (u:List Nat) (w:World) (H:h.Is w) (hl:h.l.length<=65536) (hj:h.l[j]? =some q) (ht:q.ot=81) (U:Un h q.ov u w) (hu:UOk u) (hT:Tabs w) (hlast:q.T.last<4000000) (hlv:q.T.live.length<=1500000) (hnn:u.length+(La ((pr q.T).map (·.1))).length<=100000):Calls prog 216 #[.agg #[], .pointer (some ⟨h.b,0,none⟩), .int .i64 ((j:Int)+1)] w fun e w'=> ∃v,e= .returned (.tuple #[v, .nilIface])/\OwnK w' w.heap.size v (Kc u.length++La ((pr q.T).map (·.1)))/\Below w.heap.size w w':=by
 have SS:=Ab (Sy.nil w [])
 have HT:=Ab hT
 have hO0:=U.1
 obtain⟨A,c,hv⟩:=Eg hO0
 have HK:=fun X (hX:Below w.heap.size w X)=>ord_keys h j q X (H.on hX) hl hj (hT.on hX) hlast hlv
 have HW:=fun X (hX:Below w.heap.size w X)=>own61 h j q X (H.on hX) hl hj ht
 rw[hv] at HW
 obtain⟨KS,hKS⟩: ∃KS,KS=La ((pr q.T).map (·.1)):=⟨_,rfl⟩
 rw[←hKS] at HK ⊢
 obtain⟨m,hm⟩: ∃m,KS.length=m:=⟨_,rfl⟩
 have HN1:=Ab (show u.length+m<=100000 by rw[←hm,hKS];exact hnn)
 have HM:=Ab hm
 clear hv hO0 hKS hT U hnn
 go_enter func216,ntmps216
 go_wp2_with (first|go_skip|((with_reducible show wpList ..);first|((refine bxE (by rfl) rfl rfl (Aa SS) ?_);intro Xx Bx S0;replace SS:=Ab S0;clear S0;simp only[nn])|(refine rd rfl (faM rfl rfl ((Aa SS).emp 0 rfl)) ?_)|(refine rd rfl (ldO rfl rfl) ?_)|(refine rd rfl (ldM rfl rfl) ?_)))
 refine(HK _ (Aa SS).fr.below).mono ?_
 rintro _ Y1 ⟨vr,rfl,hO1,hb1⟩
 have hs0:=(Aa SS).fr.size
 have hOm:=OwnK.mono hO1 hs0
 unfold OwnK at hOm
 rw[hm] at hOm
 replace SS:=Ab (Sy.add (Aa SS) (Lh w.heap.size 40 2 vr m (Dg KS)) hOm hb1 (fun b hb=>by have:=(World.ownsRow.lt hO1 b (by simpa [Dm] using hb)).1;exact this))
 have HRK:=Ab (fun (X:World) (a c:Ob) (S:Sy w X [] [a,Dm w.heap.size 40 2 vr m (Dg KS),c])=>(show Nw X vr KS from OwnK.reads (base:=w.heap.size) (by unfold OwnK;rw[hm];exact S.get 1 rfl)))
 have HRC:=Ab (show ∀c,vr= .slice none 0 c->c=0 from fun c hc=>by
  rcases OwnK.form hO1 with ⟨h1,_⟩|⟨g,c2,h1,_⟩
  ·rw[h1] at hc;cases hc;rfl
  ·rw[h1] at hc;cases hc)
 obtain⟨Ar,cr,hvr⟩:=Eg hOm
 have HVR:=Ab hvr
 clear hb1 hO1 hOm hs0 hvr hm
 go_wp2_with fail
 refine(HW _ (Aa SS).fr.below).mono ?_
 rintro _ _ ⟨rfl,rfl⟩
 go_wp2_with (first|go_skip|((with_reducible show wpList ..);first|(refine rd rfl (Bu 81 103 underlying81 rfl rfl) ?_)|(refine rd rfl (Bu 55 40 underlying55 rfl (Aa HVR)) ?_)|(refine rd rfl (ex_addN rfl rfl rfl (Aa HN1)) ?_)|((refine mkS (t:=55) (e:=40) (size:=2) (bytes:=24) (z:=Ey.agg) w.heap.size (u.length+m) (by rfl) rfl rfl rfl underlying55 infK (Aa HN1) (by decide) (by decide) (Aa SS) (Aa SS).fr.size ?_);intro X0 B0 hE0 S0 hB0;clear hE0 hB0;replace SS:=Ab S0;clear S0;simp only[nn])))
 go_loopg [12,39] u.length (fun gm s12 s39 wr=> ∃(i:Nat) (vk:Value),s12=vk/\s39= .int .i64 (i:Nat)/\i<=u.length/\u.length - i<=gm/\Hid (Sy w wr [] [empO Bx,Dm w.heap.size 40 2 vr m (Dg KS),Dm w.heap.size 40 2 vk i (Dg (Kc i))]))
 case atStart=>exact⟨0,_,rfl,rfl,by omega,by omega,SS⟩
 case round=>
  clear SS
  obtain⟨i,vk,rfl,rfl,hil,hgm,SS⟩:=hrel
  by_cases hlt:i<u.length
  ·have dlt:decide ((i:Int)<(u.length:Int))=true:=decide_eq_true (by omega)
   have hw1:IntKind.i64.wrap ((i:Int)+1)=(i:Int)+1:=by rw[IntKind.wrap_i64];have:=Aa HN1;omega
   have hi32:i<=4294967295:=by have:=Aa HN1;omega
   have HI4:=Ab (show i+1<=4000000 by have:=Aa HN1;omega)
   have HLT:=Ab hlt
   clear hlt hil
   go_wp2_with (first|go_skip|((with_reducible show wpList ..);first|(refine rd rfl (ZbL rfl rfl hi32) ?_)))
   have HF:=Kk i hi32 _ ((Aa HT).on (Aa SS).fr.below).2
   rw[show KK.agg ⟨Kv i,0⟩=(Gc i).agg from rfl,Ec] at HF
   refine HF.mono ?_
   clear HF
   rintro _ X1 ⟨rfl,hb1⟩
   replace SS:=Ab ((Aa SS).on hb1)
   clear hb1
   go_wp2_with (first|go_skip|((with_reducible show wpList ..);first|((refine bsS (t:=55) (e:=40) (size:=2) (bytes:=24) (z:=Ey.agg) (cs:=KK.cs (Gc i)) (by rfl) rfl rfl underlying55 infK (by decide) rfl rfl (by decide) (Aa SS) ?_);intro Xk Bk hE0 S0 hB0;clear hE0 hB0;replace SS:=Ab S0;clear S0;simp only[nn])|((refine apS (t:=55) (e:=40) (size:=2) (bytes:=24) (z:=Ey.agg) (news:=KK.cs (Gc i)) 2 3 rfl rfl rfl rfl underlying55 infK rfl (by decide) (Aa SS) rfl rfl rfl (oneK _) (Aa HI4) (by decide) (Aa SS).fr.size ?_);intro A1 c1 X1 S0;replace SS:=Ab S0;clear S0;simp only[nn])))
   have S4:=Sy.left (L:= [_,_,_]) (M:= [_]) (Aa SS)
   rw[flatK_sn,←Zdn] at S4
   clear SS
   have SS:=Ab S4
   clear S4
   go_wp2
   go_roundg (u.length - (i+1))
   case measure=>have:=Aa HLT;omega
   case rel=>exact⟨i+1,_,rfl,by go_num,by have:=Aa HLT;omega,by omega,SS⟩
  ·obtain rfl:i=u.length:=by omega
   clear hlt hil
   go_wp2_with (first|go_skip|((with_reducible show wpList ..);first|((refine Ef (l:=Kc u.length) (m:=KS) rfl rfl rfl rfl (by unfold OwnK;rw[Oq];exact(Aa SS).get 2 rfl) (Aa HRK _ _ _ (Aa SS)) (Aa HRC) (by rw[Oq];have:=Aa HN1;rw[Aa HM];omega) (Aa SS).fr.size ?_);intro v9 X9 hO9 hg9 hF9;have H9:=Ab (And.intro hO9 (ZbY (Aa SS) hg9));clear hO9 hg9 hF9 SS;simp only[nn])))
   go_ret2
   exact⟨v9,rfl,(Aa H9).1,(Aa H9).2⟩
end
section
open Go Go.Proofs Go.Maps Go.RowKit FM
theorem Zci {v a:VV} (h1:v.k≠7) (h2:a.k≠7):(orV v a).k≠7:=by
 unfold orV
 split<;>assumption
theorem und_k:Dv.k≠7:=by decide
theorem Kn:Bh.k≠7:=by decide
theorem fill_k {d:DD} (hg:d.g.k≠7) (hs:d.s.k≠7):(Jj d).g.k≠7/\(Jj d).s.k≠7:=by
 unfold Jj
 split
 ·exact⟨Zci hg und_k,Zci hs und_k⟩
 ·exact⟨hg,hs⟩
theorem app_k (x:Bool) {n d:DD} (hn:n.g.k≠7/\n.s.k≠7) (hg:d.g.k≠7) (hs:d.s.k≠7):(Di x n d).g.k≠7/\(Di x n d).s.k≠7:=by
 unfold Di
 split
 ·exact⟨Kn,Kn⟩
 split
 ·split
  ·exact fill_k hg hs
  ·exact⟨Kn,Kn⟩
 split
 ·exact hn
 unfold Vv
 split
 ·exact fill_k hg hs
 ·exact⟨Zci hg hn.1,Zci hs hn.2⟩
def nf (n:Nat):Nat:=FloatKind.f64.nearest (n:Int)
theorem nf_lt (n:Nat):nf n<2^64:=Ieee.Format.write_lt Ieee.double (.number ((n:Int)<0) (n:Int).natAbs 0)
theorem nfAll:(List.range 2001).all (fun n=> !isN (nf n))=true:=by kernel_rfl
theorem nf_nan {n:Nat} (h:n<=2000):isN (nf n)=false:=by
 have:=List.all_eq_true.1 nfAll n (List.mem_range.2 (by omega))
 simpa using this
def lenD (n:Nat):DD:=⟨Ja (nf n),Bh,Bh,1,1,1⟩
theorem num_good (x:Nat):(Ja x).good=true:=by simp[VV.good,Gi,Ni,Ja,inG]
theorem Zb (x:Nat):thV (Ja x)=true:=by simp[thV,Ja]
theorem Rd:thV Bh=false:=by simp[thV,Bh]
theorem Lc (n:Nat):Bs (lenD n)=2:=by simp[Bs,lenD,Zb,Rd]
theorem Zdm (n:Nat):Gy (lenD n)=true:=by simp[Gy,lenD,Zb,num_good,Ve,Rd,Rf,Bh];simp[thV]
theorem ZaF (n:Nat):Gg (lenD n)=2:=by
 unfold Gg
 rw[Zdm,Lc]
 rfl
theorem len_FD (n:Nat):FD (lenD n):=⟨nf_lt n,show 0<2^64 by decide,show 0<2^64 by decide⟩
theorem Ry:noV Al=true:=by simp[noV,Bs,Al,Rd]
theorem no_len (n:Nat):noV (lenD n)=false:=by
 unfold noV
 rw[Lc]
 rfl
theorem Zb4:FD Al:=by unfold FD Al Bh;decide
theorem ZcL (n:Nat):Mk true Al (lenD n)=true/\Di true Al (lenD n)=lenD n:=by
 have hst:stV Al=true:=by unfold stV;rw[Ry];rfl
 refine⟨?_, ?_⟩
 ·unfold Mk
  rw[ZaF,hst,Ry]
  rfl
 ·unfold Di
  rw[ZaF,hst,Ry]
  show Jj (lenD n)=lenD n
  unfold Jj
  rw[Lc]
  simp[orV,orT,lenD,Zb]
theorem num_same {n:Nat} {v:VV} (hn:isN (nf n)=false) (ht:thV v=true) (h:Zc2 (Ja (nf n)) v=true):v=Ja (nf n):=by
 unfold Zc2 at h
 rw[Zb,ht] at h
 simp only[Bool.not_true,Bool.or_self,Bool.false_eq_true,if_false,Bool.and_eq_true] at h
 obtain⟨⟨-,hg⟩,ha⟩:=h
 unfold Ei at ha
 rw[show (Ja (nf n)).k=4 from rfl,if_pos rfl] at ha
 simp only[Bool.and_eq_true,beq_iff_eq] at ha
 obtain⟨hk,hx⟩:=ha
 unfold Jr at hx
 rw[show (Ja (nf n)).x=nf n from rfl,hn] at hx
 simp only[Bool.false_and,Bool.false_or,decide_eq_true_eq] at hx
 obtain⟨k,b,x,t,i⟩:=v
 have hk':k=4:=hk.symm
 have hx':x=nf n:=hx.symm
 subst hk'
 rcases Dz hg with ⟨h1, -⟩|⟨h1, -⟩|⟨h1, -⟩|⟨-,hb,hs,hi⟩|⟨h1, -⟩|⟨h1, -⟩|⟨h1, -⟩
 ·cases h1
 ·cases h1
 ·cases h1
 ·have hb':b=false:=hb
  have hs':t=ByteArray.empty:=hs
  have hi':i=0:=hi
  subst hb' hs' hi' hx'
  rfl
 ·cases h1
 ·cases h1
 ·cases h1
theorem len_stay {x:Bool} {n:Nat} {d:DD} (hn:isN (nf n)=false) (h:Mk x (lenD n) d=true):Di x (lenD n) d=lenD n:=by
 unfold Mk at h
 unfold Di
 by_cases hk:(Gg d==0|| !stV (lenD n))=true
 ·rw[if_pos hk] at h
  cases h
 rw[if_neg hk] at h ⊢
 rw[no_len] at h ⊢
 rw[if_neg (by simp)] at h ⊢
 have hf:((lenD n).c==1 && Ou (lenD n) d)=false:=by
  cases e:((lenD n).c==1 && Ou (lenD n) d)
  ·rfl
  ·rw[e] at h;cases h
 rw[hf,if_neg (by simp)]
 have hfo:Ou (lenD n) d=false:=by
  rw[show (lenD n).c=1 from rfl] at hf
  simpa using hf
 have hkd:Gg d≠0:=fun e=>hk (by rw[e];rfl)
 have hso:Gy d=true:=by
  unfold Gg at hkd
  by_cases e:Gy d=true
  ·exact e
  ·rw[if_neg e] at hkd
   exact absurd rfl hkd
 unfold Gy at hso
 simp only[Bool.and_eq_true] at hso
 obtain⟨⟨⟨⟨⟨-, -⟩, -⟩,hw⟩,he⟩,hc⟩:=hso
 unfold Ou at hfo
 by_cases h0:(d.c==2||d.e !=0 && d.e !=(lenD n).e||Dw (lenD n) d)=true
 ·rw[if_pos h0] at hfo
  cases hfo
 rw[if_neg h0,Lc] at hfo
 rw[if_neg (by decide)] at hfo
 simp only[Bool.or_eq_true,not_or,Bool.and_eq_true,not_and,bne_iff_ne,beq_iff_eq,ne_eq] at h0
 obtain⟨⟨h1,h2⟩,h3⟩:=h0
 have h3':Dw (lenD n) d=false:=by simpa using h3
 rw[show (lenD n).w=1 from rfl] at hfo
 simp only[show ((1:Int)==1)=true from rfl,Bool.true_and,Bool.or_eq_false_iff] at hfo
 obtain⟨h4,h5⟩:=hfo
 have h4':d.w≠2:=by simpa using h4
 unfold Vv
 rw[h3',if_neg (by simp)]
 have hgs:thV d.g=false/\thV d.s=false:=by
  unfold Dw at h3'
  rw[Lc] at h3'
  unfold Gg at hkd
  unfold Bs at h3'
  cases e1:thV d.v<;>cases e2:thV d.g<;>cases e3:thV d.s<;>by_cases e4:d.w=0<;>simp[e1,e2,e3,e4] at h3' ⊢
  all_goals (unfold Bs at hkd;simp[e1,e2,e3,e4] at hkd)
 have hv:orV d.v (Ja (nf n))=Ja (nf n):=by
  unfold orV
  cases e:thV d.v
  ·rfl
  ·unfold Zt at h5
   rw[e] at h5
   rw[show (lenD n).v=Ja (nf n) from rfl] at h5
   exact num_same hn e (by simpa using h5)
 have tri: ∀t:Int,Rf t=true->t≠2->orT t 1=1:=fun t ht h2=>by
  unfold Rf at ht
  unfold orT
  simp only[Bool.or_eq_true,beq_iff_eq] at ht
  rcases ht with (rfl|rfl)|rfl
  ·rfl
  ·rfl
  ·exact absurd rfl h2
 have hE:orT d.e 1=1:=by
  by_cases e:d.e=0
  ·unfold orT;rw[e];rfl
  ·have:=h2 e
   have e1:d.e=1:=by
    have h6:(lenD n).e=1:=rfl
    rw[h6] at this
    by_cases e7:d.e=1
    ·exact e7
    ·exact absurd e7 (by simpa using this)
   unfold orT;rw[e1];rfl
 show DD.mk (orV d.v (Ja (nf n))) (orV d.g Bh) (orV d.s Bh) (orT d.w 1) (orT d.e 1) (orT d.c 1)=_
 rw[hv,tri d.w hw h4',hE,tri d.c hc h1]
 unfold orV
 rw[hgs.1,hgs.2]
 rfl
theorem Zdj {l:List (KK×DD)} {k k':KK} {d:DD} (h:k'≠k):lkP (l.map (fun e=>if e.1=k then (e.1,d) else e)) k'=lkP l k':=by
 induction l with
 |nil=>rfl
 |cons e l ih=>
  unfold lkP at ih ⊢
  rw[List.map_cons,List.find?_cons,List.find?_cons]
  by_cases he:e.1=k
  ·rw[if_pos he]
   have h1:decide ((e.1,d).1=k')=false:=decide_eq_false (fun h2=>h (by rw[←he];exact h2.symm))
   rw[h1]
   exact ih
  ·rw[if_neg he]
   cases decide (e.1=k')
   ·exact ih
   ·rfl
theorem Zdk {l:List (KK×DD)} {k:KK} {d:DD} (h:ZaP l k=true):lkP (l.map (fun e=>if e.1=k then (e.1,d) else e)) k=some d:=by
 induction l with
 |nil=>cases h
 |cons e l ih=>
  unfold lkP at ih ⊢
  rw[List.map_cons,List.find?_cons]
  by_cases he:e.1=k
  ·rw[if_pos he]
   have h1:decide ((e.1,d).1=k)=true:=decide_eq_true he
   rw[h1]
   rfl
  ·rw[if_neg he]
   have h1:decide (e.1=k)=false:=decide_eq_false he
   rw[h1]
   unfold ZaP at h
   rw[List.any_cons,h1,Bool.false_or] at h
   exact ih h
theorem lk_none {l:List (KK×DD)} {k:KK} (h:ZaP l k=false):lkP l k=none:=by
 have:=lk_has l k
 rw[h] at this
 cases e:lkP l k with
 |none=>rfl
 |some d=>rw[e] at this;cases this
theorem lk_app {l:List (KK×DD)} {k k':KK} {d:DD}:lkP (l++ [(k,d)]) k'=match lkP l k' with|some e=>some e|none=>if k=k' then some d else none:=by
 induction l with
 |nil=>
  unfold lkP
  rw[List.nil_append,List.find?_cons]
  by_cases h:k=k'
  ·rw[show decide ((k,d).1=k')=true from decide_eq_true h]
   simp[h]
  ·rw[show decide ((k,d).1=k')=false from decide_eq_false h]
   simp[h]
 |cons e l ih=>
  unfold lkP at ih ⊢
  rw[List.cons_append,List.find?_cons,List.find?_cons]
  cases decide (e.1=k')
  ·exact ih
  ·rfl
theorem Zdh {l:List (KK×DD)} {k k':KK} {d:DD} (h:k'≠k):lkP (Vn l k d) k'=lkP l k':=by
 unfold Vn
 split
 ·exact Zdj h
 ·rw[lk_app]
  cases lkP l k' with
  |none=>exact if_neg (Ne.symm h)
  |some e=>rfl
theorem Zdi {l:List (KK×DD)} {k:KK} {d:DD}:lkP (Vn l k d) k=some d:=by
 unfold Vn
 split
 ·exact Zdk (by assumption)
 ·rename_i h
  rw[lk_app,lk_none (by simpa using h)]
  exact if_pos rfl
theorem Zdl {l:List (KK×DD)} {k k':KK} (h:k'≠k):lkP (Zdz l k) k'=lkP l k':=by
 induction l with
 |nil=>rfl
 |cons e l ih=>
  unfold Zdz lkP at ih ⊢
  by_cases he:e.1=k
  ·have h2:decide (e.1=k')=false:=decide_eq_false (fun h2=>h (by rw[←he];exact h2.symm))
   rw[List.filter_cons_of_neg (by simp[he]),List.find?_cons,h2]
   exact ih
  ·rw[List.filter_cons_of_pos (by simp[he]),List.find?_cons,List.find?_cons]
   cases decide (e.1=k')
   ·exact ih
   ·rfl
theorem Zcp {l:List (KK×DD)} {k:KK} {d:DD} {e:KK×DD} (h:e∈Vn l k d):e=(k,d)∨e∈l:=by
 unfold Vn at h
 split at h
 ·obtain⟨x,hx,rfl⟩:=List.mem_map.1 h
  split
  ·rename_i h1
   exact .inl (by rw[h1])
  ·exact .inr hx
 ·rcases List.mem_append.1 h with h|h
  ·exact .inr h
  ·exact .inl (List.mem_singleton.1 h)
theorem ZbD {l:List (KK×DD)} {k:KK} {d:DD} (h:lkP l k=some d):(k,d)∈l:=by
 unfold lkP at h
 cases e:l.find? (fun e=>decide (e.1=k)) with
 |none=>rw[e] at h;cases h
 |some x=>
  rw[e] at h
  have h1:=List.mem_of_find?_eq_some e
  have h2:=List.find?_some e
  have h3:x.1=k:=by simpa using h2
  have h4:x.2=d:=by simpa using h
  rw[←h3,←h4]
  exact h1
structure QI (u:List Nat) (q:OB):Prop where
 ot:q.ot=81
 p:q.p=nulV
 ln:lkP (pr q.T) lenK=some (lenD u.length)
 nu: ∀e∈pr q.T,unB u e.1=false
 ps: ∀e∈pr q.T,FD e.2/\e.2.g.k≠7/\e.2.s.k≠7
theorem QI.get {u:List Nat} {q:OB} (Q:QI u q) (k:KK):FD (getD q.T k)/\(getD q.T k).g.k≠7/\(getD q.T k).s.k≠7:=by
 rw[Zbw]
 cases e:lkP (pr q.T) k with
 |none=>exact⟨Zb4,Kn,Kn⟩
 |some d=>exact Q.ps _ (ZbD e)
theorem QI.unit {u:List Nat} {q:OB} (Q:QI u q) {k:KK} (h:unB u k=true):q.T.find k=none:=by
 have h1:=pr_lk q.T k
 cases e:q.T.find k with
 |none=>rfl
 |some r=>
  rw[e] at h1
  have:=Q.nu _ (ZbD h1)
  rw[h] at this
  cases this
theorem QI.so {u:List Nat} {q:OB} (Q:QI u q) {k:KK} (h:unB u k=true):soD q u k=unD u k/\soB q u k=true:=by
 unfold soD soB
 rw[Q.unit h,h]
 exact⟨rfl,rfl⟩
theorem QI.len {u:List Nat} {q:OB} (Q:QI u q):soD q u lenK=lenD u.length/\soB q u lenK=true/\getD q.T lenK=lenD u.length/\(q.T.find lenK).isSome=true:=by
 have h1:=pr_lk q.T lenK
 rw[Q.ln] at h1
 have h2:(q.T.find lenK).isSome=true:=by
  cases e:q.T.find lenK with
  |none=>rw[e] at h1;cases h1
  |some r=>rfl
 have h3:getD q.T lenK=lenD u.length:=by rw[Zbw,Q.ln];rfl
 unfold soD soB
 rw[h2]
 exact⟨h3,rfl,h3,rfl⟩
theorem QI.so_k {u:List Nat} {q:OB} (Q:QI u q) (k:KK):FD (soD q u k)/\(soD q u k).g.k≠7/\(soD q u k).s.k≠7:=by
 unfold soD
 split
 ·exact Q.get k
 ·refine⟨Zbe u k, ?_, ?_⟩
  ·unfold unD;split<;>exact Kn
  ·unfold unD;split<;>exact Kn
theorem QI.put {u:List Nat} {q:OB} (Q:QI u q) (hn:u.length<=2000) {k:KK} {d:DD} {T':TT} (hu:unB u k=false) (hd:FD d) (hg:d.g.k≠7) (hs:d.s.k≠7) (hb:Mk q.x (getD q.T k) d=true) (hp:pr T'=Vn (pr q.T) k (Di q.x (getD q.T k) d)):QI u {q with T:=T'}:=by
 have hk:=Q.get k
 refine⟨Q.ot,Q.p, ?_,fun e he=> ?_,fun e he=> ?_⟩
 ·show lkP (pr T') lenK=_
  rw[hp]
  by_cases h:lenK=k
  ·subst h
   rw[Zdi,Q.len.2.2.1]
   rw[Q.len.2.2.1] at hb
   rw[len_stay (nf_nan hn) hb]
  ·rw[Zdh h]
   exact Q.ln
 ·have he:e∈pr T':=he
  rw[hp] at he
  rcases Zcp he with rfl|he
  ·exact hu
  ·exact Q.nu e he
 ·have he:e∈pr T':=he
  rw[hp] at he
  rcases Zcp he with rfl|he
  ·exact⟨fd_app q.x hk.1 hd,app_k q.x hk.2 hg hs⟩
  ·exact Q.ps e he
theorem QI.del {u:List Nat} {q:OB} (Q:QI u q) {k:KK} {T':TT} (hc:k≠lenK) (hp:pr T'=Zdz (pr q.T) k):QI u {q with T:=T'}:=by
 refine⟨Q.ot,Q.p, ?_,fun e he=> ?_,fun e he=> ?_⟩
 ·show lkP (pr T') lenK=_
  rw[hp,Zdl (Ne.symm hc)]
  exact Q.ln
 ·have he:e∈pr T':=he
  rw[hp] at he
  exact Q.nu e (List.mem_filter.1 he).1
 ·have he:e∈pr T':=he
  rw[hp] at he
  exact Q.ps e (List.mem_filter.1 he).1
theorem QI.shut {u:List Nat} {q:OB} (Q:QI u q):QI u {q with x:=false}:=⟨Q.ot,Q.p,Q.ln,Q.nu,Q.ps⟩
def Nx (u:List Nat) (c:Int) (m:Nat) (h:HP) (q:OB) (h1:HP):Prop:= ∃q1,h1.l= [q1]/\QI u q1/\q1.ov=q.ov/\q1.T.last<=q.T.last+m/\h.fuel - c<=h1.fuel/\h1.fuel<=h.fuel/\h1.ent=h.ent/\h1.depth=h.depth
theorem Nx.refl {u:List Nat} {h:HP} {q:OB} {c:Int} {m:Nat} (hl:h.l= [q]) (Q:QI u q) (hc:0<=c):Nx u c m h q h:=⟨q,hl,Q,rfl,Nat.le_add_right _ _,by omega,Int.le_refl _,rfl,rfl⟩
theorem sdef_nx {u:List Nat} {h h1:HP} {q:OB} {k:KK} {d:DD} {y:Bool} (hl:h.l= [q]) (Q:QI u q) (hn:u.length<=2000) (hd:FD d) (hg:d.g.k≠7) (hs:d.s.k≠7) (hS:SDef h 0 q u k d h1 y):Nx u 0 1 h q h1:=by
 rcases hS with ⟨-, -,rfl⟩|⟨hu,hy,⟨-,rfl⟩|⟨hy1,T',rfl,hla,hpr⟩⟩
 ·exact Nx.refl hl Q (Int.le_refl _)
 ·exact Nx.refl hl Q (Int.le_refl _)
 ·rw[hy1] at hy
  refine⟨{q with T:=T'}, ?_,Q.put hn hu hd hg hs hy.symm hpr,rfl,hla,by show h.fuel - 0<=h.fuel;omega,Int.le_refl _,rfl,rfl⟩
  show h.l.set 0 _=_
  rw[hl]
  rfl
