import Derived.Test.YtlpdllcedgnaaaaGreatDoorRw
set_option linter.all false
namespace Go.Proofs.YtlpdllcedgnaaaaGreatDoor
set_option maxRecDepth 100000
set_option maxHeartbeats 0
section
open Go Go.Proofs Go.Maps Go.RowKit FM Tryz
attribute [local go_sem] Ao Ai Am Dq Dp Br Ah Bq
theorem Np {o:Oper} {a:Act} {w:World} {x ix:Operand} {A:Option Addr} {b off n cap j q0:Nat} (ho:o.op= .indexAddr 22 x ix) (hx:a.eval x= .slice A n cap) (hix:a.eval ix= .int .i64 (j:Nat)) (hA:A=some ⟨b,off,none⟩) (hq:q0=off+j * 20) (hj:j<n):(execOp a.eval o).run prog w= .ok (.value (.pointer (some ⟨b,q0,none⟩))) w:=by
 subst hA hq
 exact Ek 22 20 j unPs idPs ho hx hix hj
theorem rng_v {X:World} {b p:Nat} {d:DD} (h:X.rangeAt b p d.cs):X.rangeAt b p d.v.cs:=Gz (a:=d.v.cs) (c:=d.g.cs++(d.s.cs++ [.int .i64 d.w, .int .i64 d.e, .int .i64 d.c])) h
theorem SH.weak {u:List Nat} {h:HP} {q:OB} {N N':Nat} {Fu Fu':Int} (S:SH u h q N Fu) (hN:N<=N') (hF:Fu'<=Fu):SH u h q N' Fu':=⟨S.k,S.l,S.qi,Nat.le_trans S.la hN,Int.le_trans hF S.f,S.e,S.d⟩
theorem Uv {o:Oper} {a:Act} {w:World} {x y:Operand} {n m:Nat} (ho:o.op= .binOp .rem 3 x y 3) (hx:a.eval x= .int .i64 (n:Nat)) (hc:a.eval y= .int .i64 2) (h:n % 2=m):(execOp a.eval o).run prog w= .ok (.value (.int .i64 (m:Nat))) w:=by
 have e:(n:Int).tmod 2=(m:Int):=by rw[←h];simp[Int.tmod_eq_emod_of_nonneg]
 have e2:IntKind.i64.wrap (m:Int)=(m:Int):=by rw[IntKind.wrap_i64];omega
 unfold execOp
 simp only[ho,hx,hc]
 simp[go_sem,e,e2]
theorem Zq {o:Oper} {a:Act} {w:World} {x y:Operand} {n m:Nat} (ho:o.op= .binOp .quo 3 x y 3) (hx:a.eval x= .int .i64 (n:Nat)) (hc:a.eval y= .int .i64 2) (h:n / 2=m) (hn:n<=100):(execOp a.eval o).run prog w= .ok (.value (.int .i64 (m:Nat))) w:=by
 have e:(n:Int).tdiv 2=(m:Int):=by rw[←h];simp[Int.tdiv_eq_ediv_of_nonneg]
 have e2:IntKind.i64.wrap (m:Int)=(m:Int):=by rw[IntKind.wrap_i64];omega
 unfold execOp
 simp only[ho,hx,hc]
 simp[go_sem,e,e2]
theorem ex_ixK {o:Oper} {a:Act} {w:World} {x ix:Operand} {g n cap j qk:Nat} (ho:o.op= .indexAddr 55 x ix) (hx:a.eval x= .slice (some ⟨g,0,none⟩) n cap) (hix:a.eval ix= .int .i64 (j:Nat)) (hq:qk=0+j * 2) (hj:j<n):(execOp a.eval o).run prog w= .ok (.value (.pointer (some ⟨g,qk,none⟩))) w:=by
 subst hq
 exact Ek 55 2 j unKs idKs ho hx hix hj
theorem ex_lt3 {o:Oper} {a:Act} {w:World} {x y:Operand} {n m:Int} {r:Bool} (ho:o.op= .binOp .lss 3 x y 3) (hx:a.eval x= .int .i64 n) (hc:a.eval y= .int .i64 m) (h:decide (n<m)=r):(execOp a.eval o).run prog w= .ok (.value (.bool r)) w:=by
 unfold execOp
 simp only[ho,hx,hc]
 simp[go_sem,eqGuard,h]
theorem ex_ad3 {o:Oper} {a:Act} {w:World} {x y:Operand} {n:Nat} (ho:o.op= .binOp .add 3 x y 3) (hx:a.eval x= .int .i64 (n:Nat)) (hc:a.eval y= .int .i64 1) (h:n<=1048576):(execOp a.eval o).run prog w= .ok (.value (.int .i64 ((n+1:Nat):Int))) w:=by
 have e:IntKind.i64.wrap ((n:Int)+1)=((n+1:Nat):Int):=by rw[IntKind.wrap_i64];omega
 unfold execOp
 simp only[ho,hx,hc]
 simp[go_sem,e]
theorem sliceUH2 (g n cap i:Nat) (hp:i+1<=cap) (w:World):(Instr.sliceAt 52 (.slice (some ⟨g,0,none⟩) n cap) (some (.int .i64 (i:Nat))) (some (.int .i64 ((i+1:Nat):Int))) none).run prog w= .ok (.slice (some ⟨g,i,none⟩) 1 (cap - i)) w:=by
 rw[run_sliceAt_slice (h:=by kernel_rfl),run_slice_lh (ht:=by kernel_rfl) (h0:=by omega) (h1:=by omega) (h2:=by omega)]
 have e:(sizeOf (prog.elem 52)).run prog w= .ok 1 w:=by kernel_rfl
 rw[e]
 have h1: ¬cap=i:=by omega
 have h2:(i+1:Int).toNat - i=1:=by omega
 simp[sliced,Addr.add,Result.andThen,h1,h2]
 exact fun h=>h.symm
theorem ex_slU2 {o:Oper} {a:Act} {w:World} {x l h:Operand} {A:Option Addr} {g n cap i:Nat} {m:Int} (ho:o.op= .slice 52 x (some l) (some h) none) (hx:a.eval x= .slice A n cap) (hl:a.eval l= .int .i64 (i:Nat)) (hh:a.eval h= .int .i64 m) (hA:A=some ⟨g,0,none⟩) (hm:m=((i+1:Nat):Int)) (hp:i+1<=cap):(execOp a.eval o).run prog w= .ok (.value (.slice (some ⟨g,i,none⟩) 1 (cap - i))) w:=by
 subst hA
 have e:=sliceUH2 g n cap i hp w
 rw[←hm] at e
 unfold execOp
 simp only[ho,hx,hl,hh,Option.map_some,Option.map_none]
 simp[e]
theorem ex_kne {o:Oper} {a:Act} {w:World} {x y:Operand} {k:KK} (ho:o.op= .binOp .neq 40 x y 40) (hx:a.eval x= .agg k.cs.toArray) (hc:a.eval y= .agg k.cs.toArray):(execOp a.eval o).run prog w= .ok (.value (.bool false)) w:=by
 have h2:=neq23 k w
 rw[Ec] at h2
 unfold execOp
 simp only[ho,hx,hc]
 simp[eqGuard,h2]
theorem veq_num {n:Nat} (h:n<=2000):Vj (Ja (nf n)) (Ja (nf n))=true:=by
 have h1:=nanF (nf n)
 rw[nf_nan h] at h1
 have h2:(FloatKind.f64.format.order (nf n) (nf n)==some .eq)=true:=by
  have e:FloatKind.f64.format.order (nf n) (nf n)=Ieee.double.order (nf n) (nf n):=rfl
  rw[e]
  simpa using h1
 unfold Vj Ja
 simp[h2]
theorem of_any2 (v:Value) (l:List Nat) (h16: ∀x∈l,x<65536) (hlen:l.length<=1099511627776) (w:World) (hR:Reads w v l):Calls prog 23 #[v] w fun e w'=>e= .returned (.string (ofS l))/\Below w.heap.size w w':=by
 refine(Zbz v l h16 hlen w hR).mono ?_
 rintro _ Y ⟨z,rfl,hz,hb⟩
 rw[Rx hz]
 exact⟨rfl,hb⟩
theorem row_len: ∀(n:Nat) (l:List Nat),l.length<=n->(M.row l).length<=l.length:=by
 intro n
 induction n with
 |zero=>
  intro l hl
  have:l= []:=List.length_eq_zero_iff.1 (by omega)
  subst this
  simp[M.row]
 |succ n ih=>
  intro l hl
  match l with
  | []=>simp[M.row]
  | [a]=>simp[M.row]
  |a::b::r=>
   unfold M.row
   split
   ·have:=ih r (by simp at hl;omega)
    simp
    omega
   ·have:=ih (b::r) (by simp at hl ⊢;omega)
    simp at this ⊢
    omega
theorem Zcm (l:List Nat):(M.ofL l).length<=4 * l.length:=by
 have h1:=row_len l.length l (Nat.le_refl _)
 unfold M.ofL
 have h2: ∀c:List Nat,(c.flatMap M.E).length<=4 * c.length:=by
  intro c
  induction c with
  |nil=>simp
  |cons x c ih=>
   have:=(M.E_len x).2
   rw[List.flatMap_cons,List.length_append,List.length_cons]
   omega
 have:=h2 (M.row l)
 omega
theorem Zaz {l:List Nat} (h: ∀x∈l,x<65536):(ofS l).size<=4 * l.length:=by
 have e:(Az (ofS l)).length=(ofS l).size:=by simp[Az]
 rw[←e,Rw h]
 exact Zcm l
theorem cat2 (a b:List Nat) (ha: ∀x∈a,x<65536) (hb: ∀x∈b,x<65536) (hl:a.length+b.length<=1000) (w:World) (hT:Lib.Utf8Tabs 0 1 w):Calls prog 24 #[.string (ofS a), .string (ofS b)] w fun e w'=>e= .returned (.tuple #[.string (ofS (a++b)), .int .i64 0])/\Below w.heap.size w w':=by
 have h1:=Zaz ha
 have h2:=Zaz hb
 refine(ZbS (ofS a) (ofS b) (by omega) (by omega) w hT).mono ?_
 rintro _ Y ⟨t,rfl,ht,hb⟩
 have hok:Vo (ofS a) (ofS b)=true:=by
  unfold Vo
  rw[(Rv ha).1,(Rv ‹_›).1]
  rfl
 have hR:Qq (ofS a) (ofS b)=M.ofL (a++b):=by
  unfold Qq
  rw[(Rv ha).2,(Rv ‹_›).2]
 have hL:=Zcm (a++b)
 rw[List.length_append] at hL
 obtain⟨c1,c2⟩:=cat_ok hok (by rw[hR];omega)
 rw[c1,hR] at ht
 rw[c2,Rx ht]
 exact⟨rfl,hb⟩
theorem ZcY {u:List Nat} {i:Nat} (h:i<u.length):u.take i++(u.drop i).take 1=u.take (i+1):=by
 rw[List.take_add]
theorem ordK_len (l:List KK):(La l).length<=3 * l.length:=by
 have h1:=Zh l
 have h2:=Rk l
 have h3:=Rh l
 unfold La Gl
 simp only[List.length_append,List.length_map,ZbC]
 omega
theorem ordK_pos {l:List KK} (h:lenK∈l):1<=(La l).length:=by
 have h1:kd lenK=1:=by kernel_rfl
 have h2:lenK∈Gp l:=List.mem_filter.2 ⟨h,by rw[h1];rfl⟩
 have h3:1<=(Gp l).length:=List.length_pos_of_mem h2
 unfold La
 simp only[List.length_append]
 omega
theorem QI.mem {u:List Nat} {q:OB} (Q:QI u q):lenK∈(pr q.T).map (·.1):=List.mem_map.2 ⟨_,ZbD Q.ln,rfl⟩
theorem unB_idx {u:List Nat} {i:Nat} (h:i<u.length) (hl:u.length<=1048576):unB u (Gc i)=true/\unD u (Gc i)=Zbf u i:=by
 unfold unB unD
 rw[Zi h hl]
 exact⟨rfl,rfl⟩
theorem own_cut2 {w:World} {A:Option Addr} {g c i:Nat} {u:List Nat} (hA:A=some ⟨g,0,none⟩) (h:w.ownsRow 0 103 1 (.slice A u.length c) u.length (u.map Em)) (hi:i<u.length) (hc:u.length<=c):Reads w (.slice (some ⟨g,i,none⟩) 1 (c - i)) ((u.drop i).take 1):=by
 subst hA
 exact Zcg h hi hc
theorem Zcs {w X:World} {E:List Nat} {L:List Ob} {gk nk ck i n qk:Nat} {KS:List KK} (S:Sy w X E L) (j:Nat) (hj:L[j]? =some (Dm 0 40 2 (.slice (some ⟨gk,0,none⟩) nk ck) nk (Dg (Kc n++KS)))) (hl:(Kc n++KS).length=nk) (hi:i<n) (hq:qk=0+i * 2):X.rangeAt gk qk (Gc i).cs:=by
 have h0:=Oq n
 have hin:i<nk:=by rw[←hl,List.length_append];omega
 obtain⟨g',c',h1,h2⟩:=Zf (S.get j hj) hl i hin
 cases h1
 rw[hq]
 have e:(Kc n++KS)[i]'(by omega)=Gc i:=by
  rw[List.getElem_append_left (by omega)]
  unfold Kc
  simp
 rw[e] at h2
 exact h2
