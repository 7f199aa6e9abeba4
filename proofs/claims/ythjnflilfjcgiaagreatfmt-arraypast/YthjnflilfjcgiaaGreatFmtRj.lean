import Derived.Test.YthjnflilfjcgiaaGreatFmtRi
set_option linter.all false
namespace Go.Proofs.YthjnflilfjcgiaaGreatFmt
set_option maxRecDepth 100000
set_option maxHeartbeats 0
section
open Go Go.Proofs Go.Maps Go.RowKit FM Tryz
attribute [local go_sem] Eg Ea Gi
theorem ZcQ (b:Nat) (hb:b<2^64):bits BinOp.andNot IntKind.u64 (b:Int) 9223372036854775808=(sz b:Int):=by
 have h:=u64_andNot_nat b 9223372036854775808 hb (by decide)
 have e:b &&& (18446744073709551615 - 9223372036854775808)=b % 2^63:=Nat.and_two_pow_sub_one_eq_mod b 63
 rw[e] at h
 exact h
theorem ri {k:IntKind} {a b:Int} (h:a=b):Ending.returned (.int k a)=Ending.returned (.int k b):=by rw[h]
theorem sz_lt (b:Nat):sz b<9223372036854775808:=Nat.mod_lt _ (by decide)
theorem rt {a b c d:Value} (h:a=c) (h':b=d):Ending.returned (.tuple #[a,b])=Ending.returned (.tuple #[c,d]):=by rw[h,h']
theorem orExp (f e:Nat) (hf:f<2^52) (he:e<4096):bits BinOp.or IntKind.u64 (f:Int) ((e * 2^52:Nat):Int)=((e * 2^52+f:Nat):Int):=by
 have h:=u64_or_nat f (e * 2^52) (by omega) (by omega)
 have q:f|||e * 2^52=e * 2^52+f:=by
  rw[Nat.or_comm,Nat.mul_comm e,←Nat.two_pow_add_eq_or_of_lt hf]
 rw[q] at h
 exact h
theorem rf {a b:Nat} (h:a=b):Ending.returned (.float .f64 a)=Ending.returned (.float .f64 b):=by rw[h]
theorem abs_any (b:Nat) (hb:b<2^64) (w:World):Calls prog 225 #[.float .f64 b] w fun e w'=>e= .returned (.float .f64 (sz b))/\w'=w:=by
 have hs:=ZcQ b hb
 clear hb
 go_enter func225,ntmps225
 go_wp2
 go_ret
 exact⟨rf (by simp),rfl⟩
theorem sz_sz (b:Nat):sz (sz b)=sz b:=by unfold sz;omega
theorem pl_sz (b:Nat):pl (sz b)=(sz b:Int):=by
 have h:ng (sz b)=false:=by unfold ng sz;simp
 unfold pl;rw[h,sz_sz];rfl
theorem isN_sz (b:Nat):isN (sz b)=isN b:=by unfold isN;rw[sz_sz]
theorem Zc5 (b:Nat) (hb:b<2^64) (w:World):Calls prog 214 #[.float .f64 b, .int .i64 0] w fun e w'=>e= .returned (.bool (decide (sz b=INF)))/\w'=w:=by
 go_enter func214,ntmps214
 go_wp2_with fail
 refine(abs_any b hb _).mono ?_
 rintro e w' ⟨rfl,rfl⟩
 go_wp2
 go_ret
 refine⟨rb ?_,rfl⟩
 rw[fo,gtF,isN_sz,pl_sz,Bool.eq_iff_iff]
 have h2:isN 9218868437227405311=false:=by decide
 have h3:pl 9218868437227405311=9218868437227405311:=by decide
 have h4:isN b=decide (INF<sz b):=rfl
 rw[h2,h3,h4]
 simp
 unfold INF
 omega
theorem ltz (x:Nat):(FloatKind.f64.format.order x 0==some .lt)=(!isN x && (ng x && decide (0<sz x))):=by
 have h0:isN 0=false:=by decide
 have p0:pl 0=0:=by decide
 rw[fo,ltF,h0,p0,Bool.eq_iff_iff]
 unfold pl
 cases ng x<;>simp
theorem vi {k:IntKind} {a b:Int} (h:a=b):Value.int k a=Value.int k b:=by rw[h]
def pm (b:Nat):Nat:=if b<2^52 then b else 2^52+b % 2^52
def pk (b:Nat):Nat:=if b<2^52 then 0 else b / 2^52 - 1
theorem pm_lt (b:Nat):pm b<2^53:=by unfold pm;split<;>omega
theorem pk_lt (b:Nat) (h:b<INF):pk b<=2045:=by unfold pk;unfold INF at h;split<;>omega
theorem andFrac (b:Nat) (hb:b<2^64):bits BinOp.and IntKind.u64 (b:Int) 4503599627370495=((b % 2^52:Nat):Int):=by
 have h:=u64_and_nat b 4503599627370495 hb (by decide)
 have q:b &&& 4503599627370495=b % 2^52:=Nat.and_two_pow_sub_one_eq_mod b 52
 rw[q] at h
 exact h
theorem andExp (b:Nat) (hb:b<2^64):bits BinOp.and IntKind.u64 ((b:Int) / 4503599627370496) 2047=((sz b / 2^52:Nat):Int):=by
 have h:=u64_and_nat (b / 2^52) 2047 (by omega) (by decide)
 have q:b / 2^52 &&& 2047=b / 2^52 % 2^11:=Nat.and_two_pow_sub_one_eq_mod _ 11
 rw[q] at h
 have e:(b:Int) / 4503599627370496=((b / 2^52:Nat):Int):=by omega
 rw[e]
 refine h.trans ?_
 unfold sz
 omega
theorem orHid (f:Nat) (hf:f<2^52):bits BinOp.or IntKind.u64 (f:Int) 4503599627370496=((2^52+f:Nat):Int):=by
 have h:=orExp f 1 hf (by decide)
 simpa using h
theorem ZcO (x:Nat) (hx:x<2^64) (w:World):Calls prog 201 #[.float .f64 x] w fun e w'=>e= .returned (.tuple #[.int .u64 (pm (sz x):Int), .int .i64 (-1074+(pk (sz x):Int))])/\w'=w:=by
 have a1:=andFrac x (by omega)
 have a2:=andExp x (by omega)
 have hsm:x % 2^52=sz x % 2^52:=by unfold sz;omega
 rw[hsm] at a1
 have a3:=orHid (sz x % 2^52) (Nat.mod_lt _ (by decide))
 have hs:=sz_lt x
 generalize sz x=b at *
 by_cases h:b<2^52
 ·have e1:b / 2^52=0:=by omega
  have e2:b % 2^52=b:=by omega
  have p1:pm b=b:=by unfold pm;rw[if_pos h]
  have p2:pk b=0:=by unfold pk;rw[if_pos h]
  rw[e1] at a2;rw[e2] at a1 a3;rw[p1,p2]
  clear e1 e2 p1 p2 hsm
  go_enter func201,ntmps201
  go_wp2
  go_ret2
  exact⟨rfl,rfl⟩
 ·have p1:pm b=2^52+b % 2^52:=by unfold pm;rw[if_neg h]
  have p2:pk b=b / 2^52 - 1:=by unfold pk;rw[if_neg h]
  have hE:b / 2^52≠0:=by omega
  have hE2:b / 2^52<2048:=by omega
  rw[p1,p2]
  generalize b / 2^52=E at *
  generalize hm:2^52+b % 2^52=M at *
  generalize b % 2^52=F at *
  have hE': ¬((E:Int)=0):=by omega
  have hE3:((E:Int)==0)=false:=by simpa using hE'
  clear p1 p2 h hs hm hsm
  go_enter func201,ntmps201
  go_wp2
  go_ret2
  exact⟨rt rfl (vi (by omega)),rfl⟩
def loV (a:Nat):Nat:=if pk a<1074 then pm a / 2^min (1074 - pk a) 64 else pm a * 2^min (pk a - 1074) 64 % 2^64
theorem loV_lt (a:Nat):loV a<2^64:=by
 have h:=pm_lt a
 unfold loV
 split
 ·have:=Nat.div_le_self (pm a) (2^min (1074 - pk a) 64);omega
 ·exact Nat.mod_lt _ (by decide)
theorem shr_nat (x n:Nat) (y:Int) (hy:y=(n:Int)):Op.shift .shr .u64 (x:Int) .i64 y=pure (.int .u64 ((x / 2^min n 64:Nat):Int)):=by
 subst hy
 have h: ¬((n:Int)<0):=by omega
 unfold Op.shift
 rw[if_neg h]
 have e:(min (n:Int).toNat (IntKind.u64.bits))=min n 64:=by simp[IntKind.bits]
 simp only[e]
 congr 2
 rw[Int.fdiv_eq_ediv_of_nonneg _ (by exact Int.le_of_lt (Int.pow_pos (by decide)))]
 simp
theorem shl_nat (x n:Nat) (y:Int) (hy:y=(n:Int)):Op.shift .shl .u64 (x:Int) .i64 y=pure (.int .u64 ((x * 2^min n 64 % 2^64:Nat):Int)):=by
 subst hy
 have h: ¬((n:Int)<0):=by omega
 unfold Op.shift
 rw[if_neg h]
 have e:(min (n:Int).toNat (IntKind.u64.bits))=min n 64:=by simp[IntKind.bits]
 simp only[e]
 congr 2
theorem Zck (a:Nat) (h:pk a<1074):loV a=pm a / 2^min (1074 - pk a) 64:=by unfold loV;rw[if_pos h]
theorem loV_high (a:Nat) (h: ¬pk a<1074):loV a=pm a * 2^min (pk a - 1074) 64 % 2^64:=by unfold loV;rw[if_neg h]
theorem ZaU (a:Nat) (hk:pk a<=2046) (w:World):Calls prog 200 #[.int .u64 (pm a:Int), .int .i64 (-1074+(pk a:Int))] w fun e w'=>e= .returned (.int .u32 ((loV a % 2^32:Nat):Int))/\w'=w:=by
 have hlt:=loV_lt a
 by_cases h:pk a<1074
 ·have hs:=shr_nat (pm a) (1074 - pk a) (-(-1074+(pk a:Int))) (by omega)
  rw[←Zck a h] at hs
  generalize loV a=V at *
  generalize pm a=m at *
  generalize pk a=k at *
  go_enter func200,ntmps200
  go_wp2
  go_ret
  exact⟨ri (by omega),rfl⟩
 ·have hs:=shl_nat (pm a) (pk a - 1074) (-1074+(pk a:Int)) (by omega)
  rw[←loV_high a h] at hs
  generalize loV a=V at *
  generalize pm a=m at *
  generalize pk a=k at *
  go_enter func200,ntmps200
  go_wp2
  go_ret
  exact⟨ri (by omega),rfl⟩
def MV (x:Nat):Nat:=if sz x<INF then (if ng x then (2^64 - loV (sz x)) % 2^64 else loV (sz x)) else 0
theorem ZaP (x:Nat) (hx:x<2^64) (w:World):Calls prog 199 #[.float .f64 x] w fun e w'=>e= .returned (.bool (decide (sz x<INF)))/\w'=w:=by
 cases h:isN x
 ·have h2: ¬INF<sz x:=by simpa [isN] using h
  go_enter func199,ntmps199
  go_wp2_with fail
  refine(Ec x _).mono ?_
  rintro e w' ⟨rfl,rfl⟩
  rw[h]
  go_wp2_with fail
  refine(Zc5 x hx _).mono ?_
  rintro e w' ⟨rfl,rfl⟩
  go_wp2
  go_ret
  refine⟨rb ?_,rfl⟩
  rw[Bool.eq_iff_iff];simp;omega
 ·have h2:INF<sz x:=by simpa [isN] using h
  go_enter func199,ntmps199
  go_wp2_with fail
  refine(Ec x _).mono ?_
  rintro e w' ⟨rfl,rfl⟩
  rw[h]
  go_wp2
  go_ret
  refine⟨rb ?_,rfl⟩
  symm;simp;omega
theorem Zbs (x:Nat) (hx:x<2^64) (w:World):Calls prog 194 #[.float .f64 x] w fun e w'=>e= .returned (.int .u32 ((MV x % 2^32:Nat):Int))/\w'=w:=by
 have HF:=fun w=>ZaP x hx w
 by_cases hf:sz x<INF
 ·have hd:decide (sz x<INF)=true:=by simpa using hf
  have hk:=pk_lt (sz x) hf
  have hn:isN x=false:=by unfold isN;simp;omega
  have HL:=fun w=>ZaU (sz x) (by omega) w
  have HS:=fun w=>ZcO x hx w
  have hlt:=loV_lt (sz x)
  have hz:(FloatKind.f64.format.order x 0==some .lt)=(ng x && decide (0<sz x)):=by rw[ltz,hn];simp
  have hMV:MV x=if ng x then (2^64 - loV (sz x)) % 2^64 else loV (sz x):=by unfold MV;rw[if_pos hf]
  by_cases hng:(ng x && decide (0<sz x))=true
  ·rw[hng] at hz
   have hng':ng x=true:=by simp at hng;exact hng.1
   rw[hMV,hng']
   generalize loV (sz x)=V at *
   clear hMV hng hng' hf
   go_enter func194,ntmps194
   go_wp2_with fail
   refine(HF _).mono ?_
   rintro e w' ⟨rfl,rfl⟩
   rw[hd]
   go_wp2_with fail
   refine(HS _).mono ?_
   rintro e w' ⟨rfl,rfl⟩
   go_wp2_with fail
   refine(HL _).mono ?_
   rintro e w' ⟨rfl,rfl⟩
   go_wp2
   go_ret
   refine⟨ri ?_,rfl⟩
   have e:(18446744073709551616 - V:Nat)+V=18446744073709551616:=by omega
   omega
  ·have hng2:(ng x && decide (0<sz x))=false:=by simpa using hng
   rw[hng2] at hz
   have hV:(if ng x then (2^64 - loV (sz x)) % 2^64 else loV (sz x))=loV (sz x):=by
    cases hg:ng x
    ·simp
    ·rw[hg] at hng2
     have h0:sz x=0:=by simpa using hng2
     rw[h0];decide+kernel
   rw[hMV,hV]
   generalize loV (sz x)=V at *
   clear hMV hng hng2 hf hV
   go_enter func194,ntmps194
   go_wp2_with fail
   refine(HF _).mono ?_
   rintro e w' ⟨rfl,rfl⟩
   rw[hd]
   go_wp2_with fail
   refine(HS _).mono ?_
   rintro e w' ⟨rfl,rfl⟩
   go_wp2_with fail
   refine(HL _).mono ?_
   rintro e w' ⟨rfl,rfl⟩
   go_wp2
   go_ret
   exact⟨rfl,rfl⟩
 ·have hd:decide (sz x<INF)=false:=by simpa using hf
  have hMV:MV x=0:=by unfold MV;rw[if_neg hf]
  rw[hMV]
  clear hMV hf
  go_enter func194,ntmps194
  go_wp2_with fail
  refine(HF _).mono ?_
  rintro e w' ⟨rfl,rfl⟩
  rw[hd]
  go_wp2
  go_ret
  exact⟨rfl,rfl⟩
end
section
open Go Go.Proofs Go.Maps Go.RowKit FM
open Ieee
theorem vl0:vl 0=0:=by decide
theorem rep (q k:Nat) (hq:q<2^53): ∃r,vl r=q * 2^k:=by
 by_cases h0:q=0
 ·exact⟨0,by rw[h0,vl0];simp⟩
 by_cases h1:q * 2^k<2^52
 ·exact⟨q * 2^k,by unfold vl;rw[if_pos h1]⟩
 ·have hL:q.log2<=52:=by have:=(Nat.log2_lt h0).2 hq;omega
  have hk:52<=q.log2+k:=by
   have:=(Nat.le_log2 (n:=q * 2^k) (k:=52) (by have:=Nat.two_pow_pos 52;omega)).2 (by omega)
   rw[Mj h0] at this;exact this
  have ht:q.log2+k - 52<=k:=by omega
  generalize hte:q.log2+k - 52=t at *
  have hM1:2^52<=q * 2^(k - t):=by
   have:=Nat.mul_le_mul_right (2^(k - t)) (Nat.log2_self_le h0)
   rw[←Nat.pow_add,show q.log2+(k - t)=52 by omega] at this
   exact this
  have hM2:q * 2^(k - t)<2^53:=by
   have:=Nat.mul_lt_mul_of_pos_right (Nat.lt_log2_self (n:=q)) (Nat.two_pow_pos (k - t))
   rw[←Nat.pow_add,show q.log2+1+(k - t)=53 by omega] at this
   exact this
  refine⟨(t+1) * 2^52+(q * 2^(k - t) - 2^52), ?_⟩
  generalize hMe:q * 2^(k - t)=M at *
  have e1:((t+1) * 2^52+(M - 2^52)) / 2^52=t+1:=by
   rw[Nat.add_comm,Nat.add_mul_div_right _ _ (by decide),Nat.div_eq_of_lt (by omega)];omega
  have e2:((t+1) * 2^52+(M - 2^52)) % 2^52=M - 2^52:=by
   rw[Nat.add_comm,Nat.add_mul_mod_self_right,Nat.mod_eq_of_lt (by omega)]
  unfold vl
  have:2^52<=(t+1) * 2^52:=Nat.le_mul_of_pos_left _ (by omega)
  rw[if_neg (by omega),e1,e2,Nat.add_sub_cancel' hM1,←hMe,Nat.add_sub_cancel,Nat.mul_assoc,←Nat.pow_add,Nat.sub_add_cancel ht]
theorem word_eq (s:Bool) (r:Nat):double.word s r=(if s then 2^63 else 0)+r:=by
 unfold Format.word
 rw[signW]
 cases s<;>simp
def wh (r:Nat):Nat:=vl r / 2^1074
theorem cut_zero (neg:Bool) (n d:Nat):Toward.zero.cut neg n d=n / 2^d:=by
 unfold Toward.cut
 simp only[Nat.one_shiftLeft,Bool.toNat_false,Nat.add_zero]
 by_cases h:d<=n.log2+2
 ·rw[Nat.min_eq_left h]
 ·rw[Nat.min_eq_right (by omega)]
  have h1:n<2^(n.log2+2):=Nat.lt_of_lt_of_le Nat.lt_log2_self (Nat.pow_le_pow_right (by decide) (by omega))
  have h2:n<2^d:=Nat.lt_of_lt_of_le h1 (Nat.pow_le_pow_right (by decide) (by omega))
  rw[Nat.div_eq_of_lt h1,Nat.div_eq_of_lt h2]
theorem mag_eq (m k c:Nat):(m<<<(-(c:Int)+(k:Int)).toNat) / 2^(-(-(c:Int)+(k:Int))).toNat=m * 2^k / 2^c:=by
 rw[Nat.shiftLeft_eq]
 rcases Nat.le_total k c with h|h
 ·rw[show (-(c:Int)+(k:Int)).toNat=0 by omega,show (-(-(c:Int)+(k:Int))).toNat=c - k by omega,Nat.pow_zero,Nat.mul_one]
  have e:2^c=2^(c - k) * 2^k:=by rw[←Nat.pow_add,Nat.sub_add_cancel h]
  rw[e,Nat.mul_div_mul_right _ _ (Nat.two_pow_pos k)]
 ·rw[show (-(c:Int)+(k:Int)).toNat=k - c by omega,show (-(-(c:Int)+(k:Int))).toNat=0 by omega,Nat.pow_zero,Nat.div_one]
  have e:2^k=2^(k - c) * 2^c:=by rw[←Nat.pow_add,Nat.sub_add_cancel h]
  rw[e,←Nat.mul_assoc,Nat.mul_div_cancel _ (Nat.two_pow_pos c)]
theorem Xk (b:Nat) (h:sz b<INF):(double.read b).integral .zero= .number (ng b) (wh (sz b)) 0:=by
 obtain⟨m,k,e,v⟩:=Lz b h
 rw[e]
 show Datum.number (ng b) (Toward.zero.cut (ng b) (m<<<(-1074+(k:Int)).toNat) (-(-1074+(k:Int))).toNat) 0=_
 rw[cut_zero]
 unfold wh
 rw[←v]
 exact congrArg (Datum.number (ng b) · 0) (mag_eq m k 1074)
theorem Qf (b:Nat) (h:sz b<INF):(double.read b).toInt .zero=some (sgn (ng b) (wh (sz b))):=by
 unfold Datum.toInt
 rw[Xk b h]
 unfold Ieee.signed sgn
 simp
theorem Zar (b:Nat):vl b=pm b * 2^pk b:=by
 unfold vl pm pk
 split<;>simp
theorem div_low (m k c:Nat) (h:k<=c):m * 2^k / 2^c=m / 2^(c - k):=by
 have e:2^c=2^(c - k) * 2^k:=by rw[←Nat.pow_add,Nat.sub_add_cancel h]
 rw[e,Nat.mul_div_mul_right _ _ (Nat.two_pow_pos k)]
theorem wh_low (a:Nat) (h:pk a<=1074):wh a=pm a / 2^(1074 - pk a):=by
 unfold wh;rw[Zar];exact div_low (pm a) (pk a) 1074 h
theorem ZbJ {k m:Nat} (h:k<m) (c:Nat):k * 2^c<m * 2^c:=Nat.mul_lt_mul_of_pos_right h (Nat.two_pow_pos c)
theorem div_up (k c:Nat):k * 2^c / 2^c=k:=Nat.mul_div_cancel k (Nat.two_pow_pos c)
theorem Um {k:Nat} (h:k<2^32): ∃r,nf k=r/\r<INF/\vl r=k * 2^1074:=by
 obtain⟨r,hr⟩:=rep k 1074 (by omega)
 have hI:r<INF:=by
  rw[←Jw,hr]
  have h1:k * 2^1074<2^32 * 2^1074:=ZbJ h 1074
  refine Nat.lt_of_lt_of_le h1 ?_
  decide+kernel
 refine⟨r, ?_,hI,hr⟩
 have e:nf k=double.nearest false k 0:=by
  unfold nf FloatKind.nearest FloatKind.encode
  simp
  rfl
 rw[e,show (0:Int)= -1074+((1074:Nat):Int) from rfl,Xi false r k 1074 hI hr.symm,word_eq]
 simp
theorem Jz {k:Nat} (h:k<2^32):nf k<2^63/\sz (nf k)=nf k/\ng (nf k)=false/\sz (nf k)<INF/\wh (sz (nf k))=k:=by
 obtain⟨r,e,hI,hv⟩:=Um h
 have h63:r<2^63:=Nat.lt_trans hI (by decide)
 have hs:sz r=r:=Nat.mod_eq_of_lt h63
 rw[e,hs]
 refine⟨h63,rfl, ?_,hI, ?_⟩
 ·unfold ng
  rw[Nat.div_eq_of_lt h63]
  rfl
 ·unfold wh
  rw[hv]
  exact div_up k 1074
theorem nf_inj {k m:Nat} (hk:k<2^32) (hm:m<2^32) (h:nf k=nf m):k=m:=by
 rw[←(Jz hk).2.2.2.2,h,(Jz hm).2.2.2.2]
theorem Ul {k:Nat} (h:k<2^32):(FloatKind.f64.decode (nf k)).toInt .zero=some (k:Int):=by
 have e:FloatKind.f64.decode (nf k)=double.read (nf k):=rfl
 rw[e,Qf _ (Jz h).2.2.2.1,(Jz h).2.2.2.2,(Jz h).2.2.1]
 rfl
theorem lo_wh {a:Nat} (h:pk a<1074):loV a=wh a:=by
 rw[Zck a h,wh_low a (by omega)]
 by_cases h2:1074 - pk a<=64
 ·rw[Nat.min_eq_left h2]
 ·have hp:=pm_lt a
  rw[Nat.min_eq_right (by omega),Nat.div_eq_of_lt (by omega),Nat.div_eq_of_lt]
  exact Nat.lt_of_lt_of_le hp (Nat.pow_le_pow_right (by decide) (by omega))
theorem pk_gen {a k c:Nat} (hk:k<2^32) (hv:pm a * 2^pk a=k * 2^c) (hc:0<c):pk a<c:=by
 rcases Nat.lt_or_ge (pk a) c with h|h
 ·exact h
 ·exfalso
  have hm:2^52<=pm a:=by
   unfold pk at h
   unfold pm
   split at h
   ·omega
   ·rename_i h0;rw[if_neg h0];omega
  have h1:2^52 * 2^c<=pm a * 2^pk a:=Nat.mul_le_mul hm (Nat.pow_le_pow_right (by decide) h)
  have h2:k * 2^c<2^52 * 2^c:=ZbJ (by omega) c
  omega
theorem MV_nf {k:Nat} (h:k<2^32):MV (nf k) % 2^32=k:=by
 obtain⟨h63,hs,hg,hI,hw⟩:=Jz h
 obtain⟨r,e,_,hv⟩:=Um h
 have hp:pk (sz (nf k))<1074:=by
  rw[hs,e]
  rw[Zar] at hv
  exact pk_gen h hv (by decide)
 unfold MV
 rw[if_pos hI,hg,if_neg (by decide),lo_wh hp,hw,Nat.mod_eq_of_lt h]
theorem Ru {k:Nat} (h:k<2^32):isN (nf k)=false:=by
 have:=(Jz h).2.2.2.1
 unfold isN
 simp
 omega
theorem ZbF {k:Nat} (h:k<2^32):FloatKind.f64.format.order (nf k) (nf k)=some Ordering.eq:=by
 show double.order (nf k) (nf k)=_
 rw[Gw,Ru h]
 simp
theorem MV_mz:MV 9223372036854775808 % 2^32=0:=by decide+kernel
theorem ord_mz:FloatKind.f64.format.order (nf 0) 9223372036854775808=some Ordering.eq:=by kernel_rfl
def IsL (x k:Nat):Prop:=k<2^32/\(x=nf k∨(k=0/\x=9223372036854775808))
theorem IsL.mv {x k:Nat} (h:IsL x k):MV x % 2^32=k:=by
 rcases h with ⟨hk,rfl|⟨rfl,rfl⟩⟩
 ·exact MV_nf hk
 ·exact MV_mz
theorem IsL.lt {x k:Nat} (h:IsL x k):x<2^64:=by
 rcases h with ⟨hk,rfl|⟨rfl,rfl⟩⟩
 ·have:=(Jz hk).1;omega
 ·decide
theorem IsL.ord {x k:Nat} (h:IsL x k):FloatKind.f64.format.order (nf k) x=some Ordering.eq:=by
 rcases h with ⟨hk,rfl|⟨rfl,rfl⟩⟩
 ·exact ZbF hk
 ·exact ord_mz
theorem ord_no {x n:Nat} (hx:x<2^64) (hn:n<2^32) (h: ¬∃k,IsL x k):FloatKind.f64.format.order (nf n) x≠some Ordering.eq:=by
 show double.order (nf n) x≠_
 rw[Gw,Ru hn]
 intro hc
 apply h
 cases hN:isN x
 ·rw[hN] at hc
  simp at hc
  have h63:=(Jz hn).1
  rcases (pl_eqD (nf n) x (by omega) hx).1 hc with e|⟨e1,e2⟩
  ·exact⟨n,hn, .inl e.symm⟩
  ·rw[(Jz hn).2.1] at e1
   have e0:nf n=nf 0:=by rw[e1,nf_z]
   have en:=nf_inj hn (by decide) e0
   unfold sz at e2
   refine⟨n,hn, ?_⟩
   rcases Nat.lt_or_ge x 9223372036854775808 with hl|hl
   ·left;rw[e1];omega
   ·right;exact⟨en,by omega⟩
 ·rw[hN] at hc
  simp at hc
