import Derived.Test.YthjnflilfjcgiaaGreatFmtRt
set_option linter.all false
namespace Go.Proofs.YthjnflilfjcgiaaGreatFmt
set_option maxRecDepth 100000
set_option maxHeartbeats 0
section
open Go Go.Proofs Go.Maps Go.RowKit FM Tryz
attribute [local go_sem] Ad Ag Ak Df Bi Ae Bg
theorem Kh {w X Y:World} {h:HP} {L:List Ob} {B i:Nat} {l:List VV} (S:Sy w X [] (hpO h::L)) (hi:(hpO h::L)[i]? =some (Am B (l.flatMap VV.cs))) (h0:0≠i) (hc:0<(l.flatMap VV.cs).length) (k:Fr X Y h.blocks):Qw Y (some ⟨B,0,none⟩) l:=
 Jl ((S.hold i hi).block (k.block B ((S.hold i hi).lt hc) (fun hm=>S.apart (i:=0) (j:=i) rfl hi h0 B hm (List.mem_singleton.2 rfl))))
theorem Zch {w X Y:World} {L:List Ob} {B:Nat} {fu:Int} (S:Sy w X [] L) (hI:(Bj B 1 fu 5).Is Y) (hB:X.heap.size<=B) (hb:Below X.heap.size X Y):Sy w Y [] (hpO (Bj B 1 fu 5)::L):=
 (S.add (Zx _) hI hb (fun b h=>by
  have:b=B:=by simpa [hpO,Up] using h
  omega)).front
theorem Mt {o:Oper} {a:Act} {w:World} {x:Operand} {c:Nat} (ho:o.op= .build 53 #[(0,x)]) (hx:a.eval x=(Ee c).agg):(execOp a.eval o).run prog w= .ok (.value (.agg (lxC c).toArray)) w:=by
 have e:(Instr.build 53 #[(0,(Ee c).agg)]).run prog w= .ok (.agg (lxC c).toArray) w:=by kernel_rfl
 unfold execOp
 simp only[ho,List.map_toArray,List.map_cons,List.map_nil,hx]
 simp[e]
theorem Ej {X:World} {base n c:Nat} {A:Option Addr} {l:List (KK×DD)} (h:X.ownsRow base 106 20 (.slice A n c) n (Ms l)) (hn:l.length=n):ReadsP X A l:=fun j v hv=>by
 obtain⟨hj,rfl⟩:=List.getElem?_eq_some_iff.1 hv
 obtain⟨g,c,e,_,h2,h3⟩:=own_row (f:=prC) (fun _=>rfl) h hn j hj
 cases e
 exact⟨g,0,rfl,h2,h3⟩
theorem Mb (u:VV) (k:Nat):((Dh [u,u]).filter (fun e=>decide (e.1<k))).length=min 2 k:=by
 have e:Dh [u,u]= [(0,Kn u),(1,Kn u)]:=rfl
 rw[e]
 rcases k with _|_|k
 ·rfl
 ·rfl
 ·simp
theorem Qo {o:Oper} {a:Act} {w:World} {x:Operand} {b:Nat} (h:(FloatKind.f64.format.order b 0==some .gt||FloatKind.f64.format.order b 0==some .eq)=true) (ho:o.op= .binOp .geq 33 x (.const (.float .f64 0)) 33) (hx:a.eval x= .float .f64 b):(execOp a.eval o).run prog w= .ok (.value (.bool true)) w:=El h ho hx
theorem Qn {o:Oper} {a:Act} {w:World} {x:Operand} {b:Nat} (h:(FloatKind.f64.format.order b 4751297606873776128==some .lt||FloatKind.f64.format.order b 4751297606873776128==some .eq)=true) (ho:o.op= .binOp .leq 33 x (.const (.float .f64 4751297606873776128)) 33) (hx:a.eval x= .float .f64 b):(execOp a.eval o).run prog w= .ok (.value (.bool true)) w:=by
 rw[←h]
 unfold execOp
 simp only[ho,hx]
 simp[go_sem,eqGuard]
theorem Kl {o:Oper} {a:Act} {w:World} {x y:Operand} {b c:Nat} (h:FloatKind.f64.format.order b c=some Ordering.eq) (ho:o.op= .binOp .eql 33 x y 33) (hx:a.eval x= .float .f64 b) (hy:a.eval y= .float .f64 c):(execOp a.eval o).run prog w= .ok (.value (.bool true)) w:=by
 unfold execOp
 simp only[ho,hx,hy]
 simp[go_sem,eqGuard,h]
theorem IsL.ge0 {x k:Nat} (h:IsL x k):(FloatKind.f64.format.order x 0==some .gt||FloatKind.f64.format.order x 0==some .eq)=true:=by
 rcases h with ⟨hk,rfl|⟨rfl,rfl⟩⟩
 ·have:=Un hk (show 0<2^32 by decide)
  rw[nf_z] at this
  rw[this]
  rcases Nat.eq_zero_or_pos k with rfl|h0
  ·rfl
  ·rw[Nat.compare_eq_gt.2 h0];rfl
 ·kernel_rfl
theorem IsL.leM {x k:Nat} (h:IsL x k):(FloatKind.f64.format.order x 4751297606873776128==some .lt||FloatKind.f64.format.order x 4751297606873776128==some .eq)=true:=by
 rcases h with ⟨hk,rfl|⟨rfl,rfl⟩⟩
 ·have:=Un hk (show 4294967295<2^32 by decide)
  rw[ZaQ] at this
  rw[this]
  rcases Nat.lt_or_ge k 4294967295 with h0|h0
  ·rw[Nat.compare_eq_lt.2 h0];rfl
  ·obtain rfl:k=4294967295:=by omega
   rfl
 ·kernel_rfl
theorem IsL.conv {x k:Nat} (h:IsL x k):(FloatKind.f64.decode x).toInt .zero=some (k:Int):=by
 rcases h with ⟨hk,rfl|⟨rfl,rfl⟩⟩
 ·exact Ul hk
 ·kernel_rfl
theorem IsL.ord2 {x k:Nat} (h:IsL x k):FloatKind.f64.format.order x (nf k)=some Ordering.eq:=by
 rcases h with ⟨hk,rfl|⟨rfl,rfl⟩⟩
 ·exact ZbF hk
 ·kernel_rfl
theorem nf_cvx {n:Nat} (h:n<2^32):Cv (nf n) n:=by
 intro w
 have ht:=Ul h
 simp[go_sem,convert,Conv.floatToInt,ht]
 intro h'
 have e1:IntKind.u32.min=0:=rfl
 have e2:IntKind.u32.max=4294967295:=rfl
 rw[e1,e2] at h'
 have:=h' (by omega)
 omega
theorem Jf {T:TT} {n:Nat} {l:List (Nat×DD)} (hp:pr T=arrG n l) (hn:n<2^32):Cv (getD T Bm).v.x n/\(getD T Bm).w=2:=by
 rw[Lh hp]
 exact⟨nf_cvx hn,rfl⟩
theorem Yl {o:Oper} {a:Act} {w:World} {x:Operand} {b m:Nat} (h:m<2^32) (ht:(FloatKind.f64.decode b).toInt .zero=some (m:Int)) (ho:o.op= .convert 33 3 x) (hx:a.eval x= .float .f64 b):(execOp a.eval o).run prog w= .ok (.value (.int .i64 (m:Nat))) w:=by
 unfold execOp
 simp only[ho,hx]
 simp[go_sem,convert,Conv.floatToInt,ht]
 intro h'
 exfalso
 have e1:IntKind.i64.min= -9223372036854775808:=rfl
 have e2:IntKind.i64.max=9223372036854775807:=rfl
 simp only[e1,e2] at h'
 omega
def Eo (v:VV):VV:=if v.good=true/\v.k≠7 then v else Ee 4607182418800017408
theorem Nm (v:VV):knE 0 [Eo v,Eo v]=0:=by
 have h1:Di 0 (Eo v)=0:=by
  unfold Di Eo
  by_cases h:v.good=true/\v.k≠7
  ·rw[if_pos h,if_pos h.1]
   simp[Az,Jc,h.2]
  ·rw[if_neg h,if_pos (La _)]
   simp[Az,Jc,Ee]
 simp[knE,h1,orE]
theorem Nn (v:VV) (h:v.x<2^64):(Eo v).x<2^64:=by
 unfold Eo
 split
 ·exact h
 ·show 4607182418800017408<2^64
  decide
theorem Kj {o:Oper} {a:Act} {w:World} {x:Operand} {b:Nat} {q:Bool} (h:(FloatKind.f64.format.order b 4751297606873776128==some .lt||FloatKind.f64.format.order b 4751297606873776128==some .eq)=q) (ho:o.op= .binOp .leq 33 x (.const (.float .f64 4751297606873776128)) 33) (hx:a.eval x= .float .f64 b):(execOp a.eval o).run prog w= .ok (.value (.bool q)) w:=by
 rw[←h]
 unfold execOp
 simp only[ho,hx]
 simp[go_sem,eqGuard]
theorem Qp {o:Oper} {a:Act} {w:World} {x y:Operand} {b c:Nat} (h:FloatKind.f64.format.order b c≠some Ordering.eq) (ho:o.op= .binOp .eql 33 x y 33) (hx:a.eval x= .float .f64 b) (hy:a.eval y= .float .f64 c):(execOp a.eval o).run prog w= .ok (.value (.bool false)) w:=by
 unfold execOp
 simp only[ho,hx,hy]
 simp[go_sem,eqGuard,h]
theorem Gs {o:Oper} {a:Act} {w:World} {x y:Operand} (ho:o.op= .binOp .eql 68 x y 68) (hx:a.eval x= .agg (Mv 3).toArray) (hy:a.eval y= .agg (Mv 3).toArray):(execOp a.eval o).run prog w= .ok (.value (.bool true)) w:=by
 unfold execOp
 simp only[ho,hx,hy]
 kernel_rfl
theorem ord_sw {x y:Nat} (h:FloatKind.f64.format.order y x≠some Ordering.eq):FloatKind.f64.format.order x y≠some Ordering.eq:=by
 have e1:FloatKind.f64.format.order x y=if isN x||isN y then none else some (compare (pl x) (pl y)):=Gw x y
 have e2:FloatKind.f64.format.order y x=if isN y||isN x then none else some (compare (pl y) (pl x)):=Gw y x
 rw[e2,Bool.or_comm] at h
 rw[e1]
 cases hn:(isN x||isN y)
 ·rw[hn] at h
  intro hc
  apply h
  simp at hc ⊢
  exact hc.symm
 ·simp
theorem Nk {x:Nat} (hx:x<2^64) (hn: ¬∃k,IsL x k):(FloatKind.f64.format.order x 0==some .gt||FloatKind.f64.format.order x 0==some .eq)=false∨((FloatKind.f64.format.order x 0==some .gt||FloatKind.f64.format.order x 0==some .eq)=true/\(FloatKind.f64.format.order x 4751297606873776128==some .lt||FloatKind.f64.format.order x 4751297606873776128==some .eq)=false)∨((FloatKind.f64.format.order x 0==some .gt||FloatKind.f64.format.order x 0==some .eq)=true/\(FloatKind.f64.format.order x 4751297606873776128==some .lt||FloatKind.f64.format.order x 4751297606873776128==some .eq)=true/\ ∃m:Nat,m<2^32/\(FloatKind.f64.decode x).toInt .zero=some (m:Int)/\FloatKind.f64.format.order x (nf m)≠some Ordering.eq):=by
 cases h1:(FloatKind.f64.format.order x 0==some .gt||FloatKind.f64.format.order x 0==some .eq)
 ·exact .inl rfl
 ·cases h2:(FloatKind.f64.format.order x 4751297606873776128==some .lt||FloatKind.f64.format.order x 4751297606873776128==some .eq)
  ·exact .inr (.inl ⟨rfl,rfl⟩)
  ·refine .inr (.inr ⟨rfl,rfl, ?_⟩)
   have e1:FloatKind.f64.format.order x 0=if isN x||isN 0 then none else some (compare (pl x) (pl 0)):=Gw x 0
   have e2:FloatKind.f64.format.order x 4751297606873776128=if isN x||isN 4751297606873776128 then none else some (compare (pl x) (pl 4751297606873776128)):=Gw x _
   rw[e1] at h1
   rw[e2] at h2
   have z0:pl 0=0:=by decide
   have z1:pl 4751297606873776128=4751297606873776128:=by decide
   cases hN:isN x
   ·have n0:isN 0=false:=by decide
    have n1':isN 4751297606873776128=false:=by decide
    rw[hN,n0,z0] at h1
    rw[hN,n1',z1] at h2
    have k1:0<=pl x:=by
     by_cases g:pl x<0
     ·rw[Int.compare_eq_lt.2 g] at h1
      simp at h1
     ·omega
    have k2:pl x<=4751297606873776128:=by
     by_cases g:4751297606873776128<pl x
     ·rw[Int.compare_eq_gt.2 g] at h2
      simp at h2
     ·omega
    obtain⟨m,hm,ht⟩:=fu_any hN k1 (by rw[ZaQ];exact k2)
    exact⟨m,hm,ht,ord_sw (ord_no hx hm hn)⟩
   ·rw[hN] at h1
    simp at h1
